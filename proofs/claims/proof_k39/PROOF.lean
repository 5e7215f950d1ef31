import PyProof.Rows.All
import Wide.All
import OpenK.AllK
import Wide.FinOn
import Lean
import PyProof.EqAt
import PyProof.EqKinds
import PyProof.TupleCall
import PySem.Challenge.RW_onceround_k39_whole_rings_numbered
set_option genSizeOfSpec false
set_option bootstrap.genMatcherCode false
set_option Elab.async false
set_option linter.all false
set_option maxRecDepth 100000
set_option maxHeartbeats 4000000
noncomputable section
namespace L2
open PySem PySem.Spec PyProof.Rows
abbrev Key:=Sum Int Str
def keyIs:Key->Value->Bool
 | .inl k,v=>Value.isInt k v
 | .inr x,v=>Value.isStrOf x v
def keyH (w:World):Key->Int
 | .inl k=>hashInt k
 | .inr x=>hashStr w x
theorem keyIs_shape:∀ {k:Key} {v:Value},keyIs k v=true->(∃ i t,k=Sum.inl i∧v=Value.int i t)∨(∃ x t,k=Sum.inr x∧v=Value.str x t)
 | .inl i,v,h=>by
  obtain ⟨t,e⟩:=Value.isInt_shape (k:=i) (v:=v) h
  exact .inl ⟨i,t,rfl,e⟩
 | .inr x,v,h=>by
  obtain ⟨t,e⟩:=Value.isStrOf_shape (x:=x) (v:=v) h
  exact .inr ⟨x,t,rfl,e⟩
theorem keyIs_int (i:Int)(t:Tok):keyIs (.inl i) (.int i t)=true:=by simp [keyIs,Value.isInt]
theorem keyIs_str (x:Str)(t:Tok):keyIs (.inr x) (.str x t)=true:=by simp [keyIs,Value.isStrOf]
theorem key_ll (a b:Int):decide ((Sum.inl a:Key)=Sum.inl b)=(a==b):=by
 by_cases e:a=b
 ·subst e;simp
 ·have h:¬ (Sum.inl a:Key)=Sum.inl b:=fun q=>e (Sum.inl.inj q)
  rw [decide_eq_false h]
  exact (beq_eq_false_iff_ne.mpr e).symm
theorem key_rr (a b:Str):decide ((Sum.inr a:Key)=Sum.inr b)=decide (a=b):=by
 by_cases e:a=b
 ·subst e;simp
 ·have h:¬ (Sum.inr a:Key)=Sum.inr b:=fun q=>e (Sum.inr.inj q)
  rw [decide_eq_false h,decide_eq_false e]
theorem key_lr (a:Int)(b:Str):decide ((Sum.inl a:Key)=Sum.inr b)=false:=decide_eq_false (fun q=>nomatch q)
theorem key_rl (a:Str)(b:Int):decide ((Sum.inr a:Key)=Sum.inl b)=false:=decide_eq_false (fun q=>nomatch q)
def mixKind (prog:Program)(w:World):PySem.KeyKind prog w Key where
 is:=keyIs
 hash:=keyH w
 inj:=fun v a b ha hb=>by
  rcases keyIs_shape ha with ⟨i,t,rfl,rfl⟩ | ⟨x,t,rfl,rfl⟩
  ·rcases keyIs_shape hb with ⟨j,u,rfl,e⟩ | ⟨y,u,rfl,e⟩
   ·injection e with e1 _;rw [e1]
   ·exact nomatch e
  ·rcases keyIs_shape hb with ⟨j,u,rfl,e⟩ | ⟨y,u,rfl,e⟩
   ·exact nomatch e
   ·injection e with e1 _;rw [e1]
 byValue:=fun k v h=>by
  rcases keyIs_shape h with ⟨i,t,rfl,rfl⟩ | ⟨x,t,rfl,rfl⟩ <;> rfl
 pyHash:=fun hv h=>by
  rcases keyIs_shape hv with ⟨i,t,rfl,rfl⟩ | ⟨x,t,rfl,rfl⟩
  ·exact wpAny_pyHash_int h
  ·exact wpAny_pyHash_str h
 eqBool:=fun hu hv h=>by
  rcases keyIs_shape hu with ⟨i,t,rfl,rfl⟩ | ⟨x,t,rfl,rfl⟩
  ·rcases keyIs_shape hv with ⟨j,u,rfl,rfl⟩ | ⟨y,u,rfl,rfl⟩
   ·rw [key_ll] at h;exact wpAny_eqBool_int h
   ·rw [key_lr] at h;exact SeqAt.EqAt.int_str i t y u _ _ _ _ h
  ·rcases keyIs_shape hv with ⟨j,u,rfl,rfl⟩ | ⟨y,u,rfl,rfl⟩
   ·rw [key_rl] at h;exact SeqAt.EqAt.str_int x t j u _ _ _ _ h
   ·rw [key_rr] at h;exact wpAny_eqBool_str h
 «strs» := fun k x t v h=>by
  rcases keyIs_shape h with ⟨i,u,rfl,e⟩ | ⟨y,u,rfl,e⟩
  ·exact nomatch e
  ·injection e with e1 _
   subst e1
   cases v <;> rfl
theorem mixKind_int (prog:Program)(w:World)(i:Int)(t:Tok):(mixKind prog w).is (.inl i) (.int i t)=true:=keyIs_int i t
theorem mixKind_str (prog:Program)(w:World)(x:Str)(t:Tok):(mixKind prog w).is (.inr x) (.str x t)=true:=keyIs_str x t
end L2
namespace L2
open PySem PySem.Spec PyProof.Rows
inductive V where
 | non | bl (b:Bool) | int (i:Int) | str (x:Str) | byt (b:Array UInt8) | flt (b:UInt64) | ref (a:Addr) | ty (n:String)
 deriving DecidableEq
def RelV:V->Value->Prop
 | .non,u=>u=Value.none
 | .bl b,u=>u=Value.bool b
 | .int i,u=>∃ t,u=Value.int i t
 | .str x,u=>∃ t,u=Value.str x t
 | .byt b,u=>∃ t,u=Value.bytes b t
 | .flt b,u=>∃ t,u=Value.float b t
 | .ref a,u=>u=Value.ref a
 | .ty n,u=>u=Value.type n
abbrev Vals:List V->List Value->Prop:=Paired RelV
theorem Vals.length {xs:List V}{us:List Value}(r:Vals xs us):xs.length=us.length:=Paired.length r
theorem Vals.get:∀ {xs:List V} {us:List Value} {i:Nat} {x:V},Vals xs us->xs[i]?=some x->∃ u,us[i]?=some u∧RelV x u
 | _,_,_,_,.nil,e=>by simp at e
 | _,_,0,_,.cons r _,e=>by simp at e;subst e;exact ⟨_,rfl,r⟩
 | _,_,i+1,x,.cons _ t,e=>by
  obtain ⟨u,h1,h2⟩:=Vals.get (i:=i) (x:=x) t (by simpa using e)
  exact ⟨u,by simpa using h1,h2⟩
theorem Vals.append:∀ {xs ys:List V} {us ws:List Value},Vals xs us->Vals ys ws->Vals (xs++ys) (us++ws)
 | _,_,_,_,.nil,s=>s
 | _,_,_,_,.cons r t,s=>.cons r (Vals.append t s)
theorem Vals.take:∀ {xs:List V} {us:List Value} (n:Nat),Vals xs us->Vals (xs.take n) (us.take n)
 | _,_,0,_=>.nil
 | _,_,_+1,.nil=>.nil
 | _,_,n+1,.cons r t=>.cons r (Vals.take n t)
theorem Vals.drop:∀ {xs:List V} {us:List Value} (n:Nat),Vals xs us->Vals (xs.drop n) (us.drop n)
 | _,_,0,r=>r
 | _,_,_+1,.nil=>.nil
 | _,_,n+1,.cons _ t=>Vals.drop n t
def RelO:Option V->Option Value->Prop
 | some v,some u=>RelV v u
 | none,none=>True
 | _,_=>False
def KV {κ:Type}:List (κ×V)->List (κ×Value)->Prop:=Paired fun (p:κ×V) (q:κ×Value)=>p.1=q.1∧RelV p.2 q.2
def kV:Key->V
 | .inl i=>.int i
 | .inr x=>.str x
inductive HO where
 | lst (xs:List V)
 | tup (xs:List V)
 | dK (kvs:List (Key×V)) | dT (kvs:List (List Key×V))
 | set (S:Int->Bool) (n:Nat)
 | ins (C dx:Addr) (fs:List (Str×V))
 | own (x:Addr)
 | xd (fs:List (Str×V))
 | met (f x:Addr)
 | rng (lo hi:Int)
 | frz (o:Obj) (u:HO)
 | tbl (ps:Array Value)
 | ext (φ:Heap->Prop)
abbrev Hp:=Addr->Option HO
def upd (H:Hp)(a:Addr)(o:HO):Hp:=fun b=>if b=a then some o else H b
theorem upd_same {H:Hp}{a:Addr}{o:HO}:upd H a o a=some o:=by unfold upd;rw [if_pos rfl]
theorem upd_ne {H:Hp}{a b:Addr}{o:HO}(h:b≠a):upd H a o b=H b:=by unfold upd;rw [if_neg h]
theorem upd_upd {H:Hp}{a:Addr}{o u:HO}:upd (upd H a o) a u=upd H a u:=by
 funext b;unfold upd;split <;> rfl
theorem ne_of_none {H:Hp}{a b:Addr}{o:HO}(h:H a=some o)(h':H b=none):a≠b:=by
 intro e;subst e;rw [h] at h';cases h'
section
variable (P:Program)(w:World)
def ObjOk (H:Hp)(h:Heap)(a:Addr):HO->Prop
 | .lst xs=>xs.length<=sizeLine∧∃ (its:List Value) (n:Nat),Vals xs its∧h.get? a=some { cls:=.type "list",data:=.seq its.toArray n }
 | .tup xs=>xs.length<=sizeLine∧∃ its:List Value,Vals xs its∧IsTup h a its.toArray
 | .dK kvs=>kvs.length<=sizeLine∧(a==sysModules)=false∧∃ vs,KV kvs vs∧h.DictOf (mixKind P w) a vs
 | .dT kvs=>kvs.length<=sizeLine∧(a==sysModules)=false∧∃ xs:List (List Key×Addr×Value),
  Paired (fun (p:List Key×V) (q:List Key×Addr×Value)=>p.1=q.1∧H q.2.1=some (.tup (p.1.map kV))∧RelV p.2 q.2.2) kvs xs ∧
  ∃ o es ep,h.get? a=some o∧o.ExactDict∧o.data = .dict es ep∧es.toList=xs.map (entryOfKey (tupleKind (mixKind P w)))∧(xs.map (·.1)).Nodup
 | .set S n=>h.SetOf (intKind P w) a S n
 | .ins C dx fs=>H dx=some (.own a)∧fs.length<=1000∧dx≠a∧h.get? a=some (PySem.W.instObj C dx) ∧
  ∃ mA,h.Ns1 dx mA∧(∀ f,RelO (fs.lookup f) (mA f))∧PySem.Within mA (fs.map (·.1))
 | .own _=>∃ o,h.get? a=some o
 | .xd fs=>∃ mA,h.Ns1 a mA∧∀ f,RelO (fs.lookup f) (mA f)
 | .rng lo hi=>∃ t u v,h.get? a=some { cls:=.type "range",data:=.fields #[.int lo t,.int hi u,.int 1 v] }
 | .frz o u=>h.get? a=some o∧ObjOk H h a u
 | .tbl ps=>h.get? a=some { cls:=.none,data:=.fields ps }
 | .met f x=>h.get? a=some (PySem.W.methodObj (.ref f) (.ref x))
 | .ext φ=>φ h∧(∃ o,h.get? a=some o)∧∀ h1 h2:Heap,φ h1->(∀ o,h1.get? a=some o->h2.get? a=some o)->φ h2
def HOk (H:Hp)(h:Heap):Prop:=∀ a o,H a=some o->ObjOk P w H h a o
end
section
variable {P:Program}{w:World}{H H':Hp}{h h':Heap}{a:Addr}{o:HO}
theorem ObjOk.lt (x:ObjOk P w H h a o):a<h.objs.size:=by
 cases o with
 | lst xs=>obtain ⟨_,_,_,_,e⟩:=x;exact Heap.lt_size e
 | tup xs=>obtain ⟨_,_,_,p⟩:=x;exact p.lt
 | dK kvs=>obtain ⟨_,_,_,_,o,_,_,e,_⟩:=x;exact Heap.lt_size e
 | dT kvs=>obtain ⟨_,_,_,_,o,_,_,e,_⟩:=x;exact Heap.lt_size e
 | set S n=>obtain ⟨o,_,_,_,e,_⟩:=x;exact Heap.lt_size e
 | ins C dx fs=>obtain ⟨_,_,_,e,_⟩:=x;exact Heap.lt_size e
 | own y=>obtain ⟨_,e⟩:=x;exact Heap.lt_size e
 | xd fs=>obtain ⟨_,⟨_,_,_,e,_⟩,_⟩:=x;exact Heap.lt_size e
 | rng lo hi=>obtain ⟨_,_,_,e⟩:=x;exact Heap.lt_size e
 | frz ob u=>obtain ⟨e,_⟩:=x;exact Heap.lt_size e
 | tbl ps=>exact Heap.lt_size (show h.get? a=some _ from x)
 | met f y=>exact Heap.lt_size (show h.get? a=some _ from x)
 | ext φ=>obtain ⟨_,⟨_,e⟩,_⟩:=x;exact Heap.lt_size e
theorem Paired.mapP {α β:Type}{F G:α->β->Prop}:∀ {l₁:List α} {l₂:List β},Paired F l₁ l₂->(∀ a b,F a b->G a b)->Paired G l₁ l₂
 | _,_,.nil,_=>.nil
 | _,_,.cons r t,f=>.cons (f _ _ r) (Paired.mapP t f)
theorem ObjOk.stay (x:ObjOk P w H h a o)(k:∀ b u,(b=a∨H b=some (.own a))->h.get? b=some u->h'.get? b=some u)
  (ho:∀ b,H b=some (.own a)->H' b=some (.own a)) (ht:∀ b xs,H b=some (.tup xs)->H' b=some (.tup xs)):ObjOk P w H' h' a o:=by
 induction o with
 | lst xs=>obtain ⟨z,its,n,r,e⟩:=x;exact ⟨z,its,n,r,k _ _ (.inl rfl) e⟩
 | tup xs=>obtain ⟨z,its,r,ob,e,c⟩:=x;exact ⟨z,its,r,ob,k _ _ (.inl rfl) e,c⟩
 | dK kvs=>obtain ⟨z,y,vs,r,ob,es,ep,e,c⟩:=x;exact ⟨z,y,vs,r,ob,es,ep,k _ _ (.inl rfl) e,c⟩
 | dT kvs =>
  obtain ⟨z,y,xs,r,ob,es,ep,e,c⟩:=x
  exact ⟨z,y,xs,Paired.mapP r fun p q z=>⟨z.1,ht _ _ z.2.1,z.2.2⟩,ob,es,ep,k _ _ (.inl rfl) e,c⟩
 | set S n=>obtain ⟨ob,es,ep,t,e,c⟩:=x;exact ⟨ob,es,ep,t,k _ _ (.inl rfl) e,c⟩
 | ins C dx fs =>
  obtain ⟨d,z,ne,e,mA,⟨od,es,ep,e2,c⟩,r⟩:=x
  exact ⟨ho _ d,z,ne,k _ _ (.inl rfl) e,mA,⟨od,es,ep,k _ _ (.inr d) e2,c⟩,r⟩
 | own y=>obtain ⟨ob,e⟩:=x;exact ⟨ob,k _ _ (.inl rfl) e⟩
 | xd fs=>obtain ⟨mA,⟨od,es,ep,e,c⟩,r⟩:=x;exact ⟨mA,⟨od,es,ep,k _ _ (.inl rfl) e,c⟩,r⟩
 | rng lo hi=>obtain ⟨t,u,v,e⟩:=x;exact ⟨t,u,v,k _ _ (.inl rfl) e⟩
 | frz ob u ih=>obtain ⟨e,q⟩:=x;exact ⟨k _ _ (.inl rfl) e,ih q⟩
 | tbl ps =>
  have e:h.get? a=some { cls:=.none,data:=.fields ps }:=x
  show h'.get? a=some { cls:=.none,data:=.fields ps }
  exact k a _ (.inl rfl) e
 | met f y =>
  have e:h.get? a=some (PySem.W.methodObj (.ref f) (.ref y)):=x
  show h'.get? a=some (PySem.W.methodObj (.ref f) (.ref y))
  exact k a _ (.inl rfl) e
 | ext φ=>obtain ⟨p,⟨o,e⟩,st⟩:=x;exact ⟨st _ _ p fun o q=>k _ _ (.inl rfl) q,⟨o,k _ _ (.inl rfl) e⟩,st⟩
theorem HOk.lt (x:HOk P w H h)(e:H a=some o):a<h.objs.size:=(x a o e).lt
theorem HOk.fresh (x:HOk P w H h)(e:h.objs.size<=a):H a=none:=by
 cases q:H a with
 | none=>rfl
 | some u=>exact absurd (Nat.lt_of_lt_of_le (x.lt q) e) (Nat.lt_irrefl _)
theorem HOk.kept (x:HOk P w H h)(k:∀ b u,h.get? b=some u->h'.get? b=some u):HOk P w H h':=fun a o e =>
 (x a o e).stay (fun b u _ q=>k b u q) (fun _ q=>q) fun _ _ q=>q
theorem HOk.laid (x:HOk P w H h)(k:∀ b u,h.get? b=some u->h'.get? b=some u)(hp:h.objs.size<=a)(new:ObjOk P w (upd H a o) h' a o):HOk P w (upd H a o) h':=fun b u e=>by
 have hn:=x.fresh hp
 by_cases hb:b=a
 ·subst hb;rw [upd_same] at e;cases e;exact new
 ·rw [upd_ne hb] at e
  exact (x b u e).stay (fun c v _ q=>k c v q) (fun c q=>by rw [upd_ne (ne_of_none q hn)];exact q) fun c xs q=>by rw [upd_ne (ne_of_none q hn)];exact q
end
def Rd (H:Hp)(a:Addr)(u:HO):Prop:=H a=some u∨∃ o,H a=some (.frz o u)
theorem Rd.ok {P:Program}{w:World}{H:Hp}{h:Heap}{a:Addr}{u:HO}(r:Rd H a u)(x:HOk P w H h):ObjOk P w H h a u:=by
 rcases r with r | ⟨o,r⟩
 ·exact x a u r
 ·obtain ⟨_,q⟩:=x a _ r
  exact q
def Mut:Option HO->Prop
 | some (.lst _)=>True
 | some (.dK _)=>True
 | some (.dT _)=>True
 | some (.set _ _)=>True
 | some (.ins _ _ _)=>True
 | some (.ext _)=>True
 | _=>False
section
variable {P:Program}{w:World}{H:Hp}{h h':Heap}{x e:Addr}{o':HO}
theorem HOk.write (ok:HOk P w H h)(mu:Mut (H x))(he:e=x∨H e=some (.own x))(k:∀ b u,b≠e->h.get? b=some u->h'.get? b=some u)(heo:∃ u,h'.get? e=some u)
  (new:ObjOk P w (upd H x o') h' x o'):HOk P w (upd H x o') h':=fun b u q=>by
 have nown:∀ c y,H c=some (.own y)->c≠x:=fun c y r z=>by subst z;rw [r] at mu;exact mu
 have ntup:∀ c xs,H c=some (.tup xs)->c≠x:=fun c xs r z=>by subst z;rw [r] at mu;exact mu
 by_cases hb:b=x
 ·subst hb;rw [upd_same] at q;cases q;exact new
 ·rw [upd_ne hb] at q
  by_cases hbe:b=e
  ·have q':H b=some (.own x):=by
    rcases he with z | z
    ·exact absurd (hbe.trans z) hb
    ·rw [hbe];exact z
   rw [q] at q';cases q'
   obtain ⟨v,hv⟩:=heo
   exact ⟨v,by rw [hbe];exact hv⟩
  ·refine (ok b u q).stay (fun c v hc r=>k c v ?_ r) (fun c r=>by rw [upd_ne (nown c b r)];exact r) fun c xs r=>by rw [upd_ne (ntup c xs r)];exact r
   rcases hc with rfl | hc
   ·exact hbe
   ·rintro rfl
    rcases he with z | z
    ·exact nown c b hc z
    ·rw [hc] at z;cases z;exact hb rfl
end
set_option genInjectivity false in
structure Un (fs ex:List Addr)(H H':Hp)(h h':Heap):Prop where
 keep:∀ b o,h.get? b=some o->H b=none->b∉fs->b∉ex->h'.get? b=some o
 slot:∀ b o,h.get? b=some o->H b=none->b∈fs->b∉ex->∃ sl,h'.get? b=some { o with slots:=sl }
 free:∀ b o,h.get? b=some o->H b=none->b∉ex->H' b=none
 there:∀ b o,h.get? b=some o->b∉ex->∃ o',h'.get? b=some o'
 tups:∀ b xs,H b=some (.tup xs)->H' b=some (.tup xs)
 frzs:∀ b o u,H b=some (.frz o u)->H' b=some (.frz o u)
 tbls:∀ b ps,H b=some (.tbl ps)->∃ more,H' b=some (.tbl (ps++more))
section
variable {fs fs' ex ex':List Addr}{H H1 H2:Hp}{h h1 h2 h':Heap}{a x e:Addr}{o:HO}
theorem Un.any (u:Un fs ex H H1 h h1){b:Addr}{ob:Obj}(q:h.get? b=some ob)(n:H b=none)(hx:b∉ex):∃ sl,h1.get? b=some { ob with slots:=sl }:=by
 by_cases hb:b∈fs
 ·exact u.slot b ob q n hb hx
 ·exact ⟨ob.slots,u.keep b ob q n hb hx⟩
theorem Un.kept (k:∀ b u,h.get? b=some u->h'.get? b=some u):Un fs ex H H h h' :=
 ⟨fun b ob q _ _ _=>k b ob q,fun b ob q _ _ _=>⟨ob.slots,k b ob q⟩,fun _ _ _ n _=>n,fun b ob q _=>⟨ob,k b ob q⟩,fun _ _ q=>q,fun _ _ _ q=>q,fun _ ps q=>⟨#[],by rw [q];simp⟩⟩
theorem Un.refl:Un fs ex H H h h:=Un.kept fun _ _ q=>q
theorem Un.laid (k:∀ b u,h.get? b=some u->h'.get? b=some u)(hp:h.objs.size<=a)(hn:H a=none):Un fs ex H (upd H a o) h h' where
 keep:=fun b u q _ _ _=>k b u q
 slot:=fun b u q _ _ _=>⟨u.slots,k b u q⟩
 free:=fun b u q n _=>by rw [upd_ne (Nat.ne_of_lt (Nat.lt_of_lt_of_le (Heap.lt_size q) hp))];exact n
 there:=fun b u q _=>⟨u,k b u q⟩
 tups:=fun b xs q=>by rw [upd_ne (ne_of_none q hn)];exact q
 frzs:=fun b u xs q=>by rw [upd_ne (ne_of_none q hn)];exact q
 tbls:=fun b ps q=>⟨#[],by rw [upd_ne (ne_of_none q hn),q];simp⟩
theorem Un.write (mu:Mut (H x))(he:e=x∨H e=some (.own x))(k:∀ b u,b≠e->h.get? b=some u->h'.get? b=some u)(heo:∃ u,h'.get? e=some u):Un fs ex H (upd H x o) h h':=by
 have hx:∀ b,H b=none->b≠x:=fun b n z=>by subst z;rw [n] at mu;exact mu
 have hb:∀ b,H b=none->b≠e:=fun b n z=>by
  subst z
  rcases he with r | r
  ·exact hx b n r
  ·rw [n] at r;cases r
 have hm:∀ b u,H b=some u->¬ Mut (some u)->b≠x:=fun b u q nm z=>by subst z;rw [q] at mu;exact nm mu
 refine ⟨fun b u q n _ _=>k b u (hb b n) q,fun b u q n _ _=>⟨u.slots,k b u (hb b n) q⟩,fun b u q n _=>by rw [upd_ne (hx b n)];exact n,fun b u q _=>?_,
  fun b xs q=>by rw [upd_ne (hm b _ q fun z=>z)];exact q,fun b u xs q=>by rw [upd_ne (hm b _ q fun z=>z)];exact q,fun b ps q=>⟨#[],by rw [upd_ne (hm b _ q fun z=>z),q];simp⟩⟩
 by_cases hbe:b=e
 ·subst hbe;exact heo
 ·exact ⟨u,k b u hbe q⟩
end
def trk (h:Heap)(H:Hp):List Addr:=(List.range h.objs.size).filter fun a=>(H a).isSome
def hidT (h:Heap)(H:Hp):Heap:=PySem.W.hideAll h (trk h H)
theorem hidT_size (h:Heap)(H:Hp):(hidT h H).objs.size=h.objs.size:=PySem.W.hideAll_size _ _
theorem hidT_get {h:Heap}{H:Hp}{b:Addr}{o:Obj}(e:h.get? b=some o)(n:H b=none):(hidT h H).get? b=some o :=
 PySem.W.hideAll_get _ e fun hm=>by
  have q:(H b).isSome=true:=(List.mem_filter.mp hm).2
  rw [n] at q;simp at q
theorem of_hidT {h:Heap}{H:Hp}{b:Addr}{o:Obj}(e:(hidT h H).get? b=some o):h.get? b=some o∧H b=none:=by
 have e':h.get? b=some o:=PySem.W.of_hideAll (trk h H) e
 refine ⟨e',?_⟩
 cases q:H b with
 | none=>rfl
 | some x =>
  have hm:b∈trk h H:=List.mem_filter.mpr ⟨List.mem_range.mpr (Heap.lt_size e'),by simp [q]⟩
  have z:(hidT h H).get? b=none:=PySem.W.hideAll_none (trk h H) hm
  rw [z] at e;cases e
def allNews (g h:Heap)(L:Addr):List (Addr×Obj):=(List.range h.objs.size).filterMap fun a=>if a=L∨(g.get? a).isSome=true then none else (h.get? a).map fun o=>(a,o)
def rest (g h:Heap)(L d:Addr):List (Addr×Obj):=(allNews g h L).filter fun p=>decide (p.1≠d)
end L2
namespace L2
open PySem PySem.Spec PyProof.Rows
set_option genInjectivity false in
structure Mod (K:PySem.W.Frag)(mg:Str->Option Value)(base:Heap):Prop where
 kin:K.In base
 glob:base.Ns mainGlobals mg
 blt:∃ mb,base.Ns builtinsNs mb∧∀ x:Str,x ≠ "__name__" -> mb x=bootBuiltins x
 nolimit:base.NoLimit
set_option genInjectivity false in
structure Cx where
 prog:Program
 w:World
 K:PySem.W.Frag
 mg:Str->Option Value
 base:Heap
 A:Around
 N:List Str
 s₀:Shared
 H₀:Hp
 env:Env
 outer:List Env
 stack:List Env
 ex:List Addr
 fn:Str->Bool
 calm:Bool
 pn:List (Addr×Obj)
 xe:Value->Shared->Prop
def frs (l:List Env):List Addr:=l.filterMap (·.frame)
abbrev Cx.fs (X:Cx):List Addr:=frs X.outer
def Vis (sc:Scope)(x:Str):Prop:=sc.names.lookup x=some .local∨sc.names.lookup x=some .cell∨sc.names.lookup x=some .free
def Loc (sc:Scope)(x:Str):Prop:=sc.names.lookup x=some .local∨sc.names.lookup x=some .cell
def Look (env:Env)(h:Heap)(m:Str->Option Value)(x:Str)(u:Value):Prop :=
 (env.kindOf x=some .local∧m x=some u)∨((env.kindOf x=some .cell∨env.kindOf x=some .free)∧∃ c,env.cells.lookup x=some c∧h.IsCell c (some u))
set_option genInjectivity false in
structure Cx.Ok (X:Cx):Prop where
 mod:Mod X.K X.mg X.base
 kind:X.env.scope.kind = .function
 glob:X.env.globals=mainGlobals
 blt:X.env.builtins=builtinsNs
 above:X.s₀.heap.objs.size<=X.env.locals
 inj:∀ x y c,X.env.cells.lookup x=some c->X.env.cells.lookup y=some c->x=y
 has:∀ x,(X.env.kindOf x=some .cell∨X.env.kindOf x=some .free)->∃ c,X.env.cells.lookup x=some c
 cab:∀ x c,X.fn x=true->X.env.cells.lookup x=some c->X.s₀.heap.objs.size<=c
 hd:X.calm=true->X.A.handled=none
 frames:X.A.frames=some X.stack
 stk:X.stack=X.outer∨(X.stack=X.env::X.outer∧X.env.frame=some X.env.locals)
 exf:∀ b∈X.ex,b≠X.env.locals∧∀ x c,X.env.cells.lookup x=some c->c≠b
 bs:∀ b o,X.base.get? b=some o->X.s₀.heap.get? b=some o∧X.H₀ b=none
 bsz:X.base.objs.size<=X.s₀.heap.objs.size
 noex:∀ b o,X.base.get? b=some o->b∉X.ex
 exfs:∀ b∈X.ex,b∉X.fs
 funs:X.s₀.heap.FunFrames X.base X.outer
 frf:∀ b∈X.fs,X.H₀ b=none
set_option genInjectivity false in
structure Inv (X:Cx)(pins:List (Addr×Obj))(σ:List (Option V))(H:Hp)(s:Shared):Prop where
 ok:X.Ok
 os:s.os=X.s₀.os
 bare:AllBare s.gens
 base:Un X.fs X.ex X.H₀ H X.s₀.heap s.heap
 loc:∃ m,s.heap.Ns X.env.locals m∧∀ (i:Nat) (x:Str) (v:V),X.N[i]?=some x->σ[i]?=some (some v)->Vis X.env.scope x->∃ u,RelV v u∧Look X.env s.heap m x u
 cell:∀ x c,X.env.cells.lookup x=some c->∃ v,s.heap.IsCell c v
 free:H X.env.locals=none
 freeC:∀ x c,X.env.cells.lookup x=some c->H c=none
 pin:∀ p∈X.pn++pins,s.heap.get? p.1=some p.2∧H p.1=none∧p.1≠X.env.locals∧p.1∉X.fs∧∀ v,p.2.data≠.cell v
 hok:HOk X.prog X.w H s.heap
 len:σ.length=X.N.length
section
variable {X:Cx}{pins:List (Addr×Obj)}{σ:List (Option V)}{H H':Hp}{s:Shared}{h':Heap}
theorem Cx.Ok.nofr (ok:X.Ok){b:Addr}{o:Obj}(e:X.base.get? b=some o):b∉X.fs:=fun hb=>by
 have:=(ok.funs.mem hb).1
 rw [e] at this;cases this
theorem Inv.bs (I:Inv X pins σ H s):∀ b o,X.base.get? b=some o->s.heap.get? b=some o∧H b=none:=fun b o e =>
 ⟨I.base.keep b o (I.ok.bs b o e).1 (I.ok.bs b o e).2 (I.ok.nofr e) (I.ok.noex b o e),I.base.free b o (I.ok.bs b o e).1 (I.ok.bs b o e).2 (I.ok.noex b o e)⟩
theorem Inv.bk (I:Inv X pins σ H s):∀ b o,X.base.get? b=some o->s.heap.get? b=some o:=fun b o e=>(I.bs b o e).1
theorem Inv.mod (I:Inv X pins σ H s):Mod X.K X.mg X.base:=I.ok.mod
theorem Inv.kIn (I:Inv X pins σ H s):X.K.In s.heap:=I.ok.mod.kin.keeps I.bk
theorem Inv.lt (I:Inv X pins σ H s):X.env.locals<s.heap.objs.size:=let ⟨_,hn,_⟩:=I.loc;hn.lt
theorem Inv.sz (I:Inv X pins σ H s):X.s₀.heap.objs.size<=s.heap.objs.size:=Nat.le_trans I.ok.above (Nat.le_of_lt I.lt)
theorem Inv.nofs (I:Inv X pins σ H s){a:Addr}(h:s.heap.objs.size<=a):a∉X.fs:=fun hb=>by
 obtain ⟨_,o,ho,_⟩:=I.ok.funs.mem hb
 exact absurd (Nat.lt_of_lt_of_le (Heap.lt_size ho) (Nat.le_trans I.sz h)) (Nat.lt_irrefl _)
theorem Inv.cne (I:Inv X pins σ H s):∀ x c,X.env.cells.lookup x=some c->c≠X.env.locals:=fun x c e z=>by
 obtain ⟨v,o,ho,hd⟩:=I.cell x c e
 obtain ⟨m,⟨o',es,ep,ho',hd',_⟩,_⟩:=I.loc
 rw [z,ho'] at ho;cases ho;rw [hd'] at hd;cases hd
theorem Inv.funs (I:Inv X pins σ H s):s.heap.FunFrames X.base X.outer:=by
 have all:∀ (l:List Env),(∀ b∈frs l,b∈X.fs)->X.s₀.heap.FunFrames X.base l->s.heap.FunFrames X.base l:=by
  intro l
  induction l with
  | nil=>intro _ _;trivial
  | cons env r ih =>
   intro hs hl
   obtain ⟨hk,⟨L,o,hf,hn,ho,hd⟩,hr⟩:=hl
   have hL:L∈X.fs:=hs L (by unfold frs;rw [List.filterMap_cons,hf];exact List.mem_cons_self)
   obtain ⟨sl,e⟩:=I.base.slot L o ho (I.ok.frf L hL) hL fun z=>I.ok.exfs L z hL
   exact ⟨hk,⟨L,_,hf,hn,e,hd⟩,ih (fun b hb=>hs b (by unfold frs;rw [List.filterMap_cons,hf];exact List.mem_cons_of_mem _ hb)) hr⟩
 exact all X.outer (fun _ hb=>hb) I.ok.funs
theorem Inv.stack (I:Inv X pins σ H s):s.heap.FunFrames X.base X.stack:=by
 rcases I.ok.stk with e | ⟨e,hf⟩
 ·rw [e];exact I.funs
 ·rw [e]
  obtain ⟨m,hn,_⟩:=I.loc
  refine .cons (by rw [I.ok.kind];decide) hf hn ?_ I.funs
  exact Heap.get?_none_of_le (Nat.le_trans I.ok.bsz I.ok.above)
theorem Inv.stkSub (I:Inv X pins σ H s):∀ b∈frs X.stack,b∈X.env.locals::X.fs:=fun b hb=>by
 rcases I.ok.stk with e | ⟨e,hf⟩
 ·rw [e] at hb;exact List.mem_cons_of_mem _ hb
 ·rw [e] at hb
  unfold frs at hb
  rw [List.filterMap_cons,hf] at hb
  exact hb
theorem Inv.stkFree (I:Inv X pins σ H s):∀ b∈frs X.stack,H b=none:=fun b hb=>by
 rcases List.mem_cons.mp (I.stkSub b hb) with e | hb
 ·rw [e];exact I.free
 ·obtain ⟨_,o,ho,_⟩:=I.ok.funs.mem hb
  exact I.base.free b o ho (I.ok.frf b hb) fun z=>I.ok.exfs b z hb
theorem Inv.step {g':Array GenState}{t':Nat}{d':Drawn}{ch:List Addr}(I:Inv X pins σ H s)
  (hch:∀ b∈ch,(b∈X.ex∨X.s₀.heap.objs.size<=b)∧b≠X.env.locals∧(∀ x c,X.env.cells.lookup x=some c->c≠b)∧∀ p∈X.pn++pins,p.1≠b)
  (keep:∀ b o,b≠X.env.locals->b∉X.fs->b∉ch->s.heap.get? b=some o->H b=none->h'.get? b=some o)
  (slot:∀ b o,b≠X.env.locals->b∈X.fs->b∉ch->s.heap.get? b=some o->H b=none->∃ sl,h'.get? b=some { o with slots:=sl }) (free:∀ b o,b∉ch->s.heap.get? b=some o->H b=none->H' b=none)
  (there:∀ b o,b∉ch->s.heap.get? b=some o->∃ o',h'.get? b=some o')
  (tups:∀ b xs,H b=some (.tup xs)->H' b=some (.tup xs)) (frzs:∀ b o u,H b=some (.frz o u)->H' b=some (.frz o u)) (tbls:∀ b ps,H b=some (.tbl ps)->∃ more,H' b=some (.tbl (ps++more)))
  (ns:∀ m,s.heap.Ns X.env.locals m->h'.Ns X.env.locals m) (hok:HOk X.prog X.w H' h') (hg:AllBare g') :
  Inv X pins σ H' { s with heap:=h',gens:=g',drawn:=d',toks:=t' }:=by
 have neL:∀ b o,X.s₀.heap.get? b=some o->b≠X.env.locals:=fun b o e=>Nat.ne_of_lt (Nat.lt_of_lt_of_le (Heap.lt_size e) I.ok.above)
 have neC:∀ b o,X.s₀.heap.get? b=some o->b∉X.ex->b∉ch:=fun b o e hx hb=>by
  rcases (hch b hb).1 with z | z
  ·exact hx z
  ·exact absurd (Nat.lt_of_lt_of_le (Heap.lt_size e) z) (Nat.lt_irrefl _)
 have cellK:∀ x c,X.env.cells.lookup x=some c->∀ v,s.heap.IsCell c v->h'.IsCell c v:=fun x c e v ⟨o,ho,hd⟩=>by
  have nch:c∉ch:=fun z=>(hch c z).2.2.1 x c e rfl
  by_cases hc:c∈X.fs
  ·obtain ⟨sl,q⟩:=slot c o (I.cne x c e) hc nch ho (I.freeC x c e)
   exact ⟨_,q,hd⟩
  ·exact ⟨o,keep c o (I.cne x c e) hc nch ho (I.freeC x c e),hd⟩
 refine ⟨I.ok,I.os,hg,⟨fun b o e n hb hx=>?_,fun b o e n hb hx=>?_,fun b o e n hx=>?_,fun b o e hx=>?_,fun b xs e=>tups b xs (I.base.tups b xs e),fun b o xs e=>frzs b o xs (I.base.frzs b o xs e),fun b ps e=>?_⟩,?_,fun x c e=>?_,?_,fun x c e=>?_,fun p hp=>?_,hok,I.len⟩
 ·exact keep b o (neL b o e) hb (neC b o e hx) (I.base.keep b o e n hb hx) (I.base.free b o e n hx)
 ·obtain ⟨sl,e1⟩:=I.base.slot b o e n hb hx
  obtain ⟨sl',e2⟩:=slot b _ (neL b o e) hb (neC b o e hx) e1 (I.base.free b o e n hx)
  exact ⟨sl',e2⟩
 ·obtain ⟨o',e1⟩:=I.base.there b o e hx
  exact free b o' (neC b o e hx) e1 (I.base.free b o e n hx)
 ·obtain ⟨o',e1⟩:=I.base.there b o e hx
  exact there b o' (neC b o e hx) e1
 ·obtain ⟨m1,e1⟩:=I.base.tbls b ps e
  obtain ⟨m2,e2⟩:=tbls b _ e1
  exact ⟨m1++m2,by rw [e2,Array.append_assoc]⟩
 ·obtain ⟨m,hn,hl⟩:=I.loc
  refine ⟨m,ns m hn,fun i x v e1 e2 e3=>?_⟩
  obtain ⟨u,r,l⟩:=hl i x v e1 e2 e3
  refine ⟨u,r,?_⟩
  rcases l with l | ⟨k,c,e,z⟩
  ·exact .inl l
  ·exact .inr ⟨k,c,e,cellK x c e _ z⟩
 ·obtain ⟨v,z⟩:=I.cell x c e
  exact ⟨v,cellK x c e v z⟩
 ·obtain ⟨m,⟨o,_,_,ho,_⟩,_⟩:=I.loc
  exact free _ o (fun z=>(hch _ z).2.1 rfl) ho I.free
 ·obtain ⟨v,o,ho,hd⟩:=I.cell x c e
  exact free c o (fun z=>(hch c z).2.2.1 x c e rfl) ho (I.freeC x c e)
 ·obtain ⟨e,n,ne,nf,d⟩:=I.pin p hp
  have nch:p.1∉ch:=fun z=>(hch p.1 z).2.2.2 p hp rfl
  exact ⟨keep p.1 p.2 ne nf nch e n,free p.1 p.2 nch e n,ne,nf,d⟩
theorem Inv.un {t':Nat}(I:Inv X pins σ H s)(u:Un X.fs [] H H' s.heap h')(hok:HOk X.prog X.w H' h'):Inv X pins σ H' { s with heap:=h',toks:=t' }:=by
 obtain ⟨m,⟨o,es,ep,ho,r⟩,_⟩:=id I.loc
 obtain ⟨sl,hL⟩:=u.any ho I.free (by simp)
 exact I.step (g':=s.gens) (d':=s.drawn) (ch:=[]) (fun _ z=>nomatch z) (fun b o _ hb _ e n=>u.keep b o e n hb (by simp)) (fun b o _ hb _ e n=>u.slot b o e n hb (by simp)) (fun b o _ e n=>u.free b o e n (by simp)) (fun b o _ e=>u.there b o e (by simp)) u.tups u.frzs u.tbls (fun m' hm=>by
  obtain ⟨o',es',ep',ho',r'⟩:=hm
  rw [ho] at ho';cases ho'
  exact ⟨_,es',ep',hL,r'⟩) hok I.bare
theorem Inv.call {g':Array GenState}{t':Nat}{d':Drawn}{ch:List Addr}(I:Inv X pins σ H s)(u:Un (frs X.stack) ch H H' s.heap h')(hok:HOk X.prog X.w H' h')(hg:AllBare g')
  (hch:∀ b∈ch,(b∈X.ex∨X.s₀.heap.objs.size<=b)∧b≠X.env.locals∧(∀ x c,X.env.cells.lookup x=some c->c≠b)∧∀ p∈X.pn++pins,p.1≠b) :
  Inv X pins σ H' { s with heap:=h',gens:=g',drawn:=d',toks:=t' }:=by
 obtain ⟨m,⟨o,es,ep,ho,r⟩,_⟩:=id I.loc
 obtain ⟨sl,hL⟩:=u.any ho I.free fun z=>(hch _ z).2.1 rfl
 exact I.step (ch:=ch) hch (fun b o hL hb hc e n=>u.keep b o e n (fun z=>(List.mem_cons.mp (I.stkSub b z)).elim hL hb) hc) (fun b o _ _ hc e n=>u.any e n hc) (fun b o hc e n=>u.free b o e n hc) (fun b o hc e=>u.there b o e hc) u.tups u.frzs u.tbls (fun m' hm=>by
  obtain ⟨o',es',ep',ho',r'⟩:=hm
  rw [ho] at ho';cases ho'
  exact ⟨_,es',ep',hL,r'⟩) hok hg
theorem Inv.turned {t':Nat}{it:Addr}(I:Inv X pins σ H s)(k:∀ b o,b≠it->s.heap.get? b=some o->h'.get? b=some o)(hn:H it=none)(hL:it≠X.env.locals)
  (h1:it∈X.ex∨X.s₀.heap.objs.size<=it) (h2:∀ x c,X.env.cells.lookup x=some c->c≠it) (h3:∀ p∈X.pn++pins,p.1≠it):Inv X pins σ H { s with heap:=h',toks:=t' }:=by
 have nit:∀ b u,H b=some u->b≠it:=fun b u e z=>by rw [z,hn] at e;cases e
 refine I.step (g':=s.gens) (d':=s.drawn) (ch:=[it]) (fun b hb=>?_) (fun b o _ _ hc e _=>k b o (fun z=>hc (by simp [z])) e) (fun b o _ _ hc e _=>⟨o.slots,k b o (fun z=>hc (by simp [z])) e⟩) (fun _ _ _ _ n=>n)
  (fun b o hc e=>⟨o,k b o (fun z=>hc (by simp [z])) e⟩) (fun _ _ e=>e) (fun _ _ _ e=>e) (fun b ps e=>⟨#[],by rw [e];simp⟩) (fun m hm=>?_) (fun b u e=>?_) I.bare
 ·have e:b=it:=by simpa using hb
  subst e
  exact ⟨h1,hL,h2,h3⟩
 ·obtain ⟨o,es,ep,ho,r⟩:=hm
  exact ⟨o,es,ep,k _ o (Ne.symm hL) ho,r⟩
 ·refine (I.hok b u e).stay (fun c v hc q=>k c v ?_ q) (fun _ q=>q) fun _ _ q=>q
  rcases hc with z | z
  ·rw [z];exact nit b u e
  ·exact nit c _ z
theorem Inv.tok (I:Inv X pins σ H s)(t:Nat):Inv X pins σ H { s with toks:=t }:=I.un (h':=s.heap) (t':=t) Un.refl I.hok
theorem Inv.kept {t':Nat}(I:Inv X pins σ H s)(k:∀ b u,s.heap.get? b=some u->h'.get? b=some u):Inv X pins σ H { s with heap:=h',toks:=t' }:=I.un (Un.kept k) (I.hok.kept k)
theorem Inv.laid {a:Addr}{o:HO}{t':Nat}(I:Inv X pins σ H s)(k:∀ b u,s.heap.get? b=some u->h'.get? b=some u)(hp:s.heap.objs.size<=a)(new:ObjOk X.prog X.w (upd H a o) h' a o) :
 Inv X pins σ (upd H a o) { s with heap:=h',toks:=t' }:=I.un (Un.laid k hp (I.hok.fresh hp)) (I.hok.laid k hp new)
theorem Inv.write {x e:Addr}{o:HO}{t':Nat}(I:Inv X pins σ H s)(mu:Mut (H x))(he:e=x∨H e=some (.own x))(k:∀ b u,b≠e->s.heap.get? b=some u->h'.get? b=some u)(heo:∃ u,h'.get? e=some u)
 (new:ObjOk X.prog X.w (upd H x o) h' x o):Inv X pins σ (upd H x o) { s with heap:=h',toks:=t' }:=I.un (Un.write mu he k heo) (I.hok.write mu he k heo new)
theorem Inv.pins_of {pins':List (Addr×Obj)}(I:Inv X pins σ H s)(h:∀ p∈pins',s.heap.get? p.1=some p.2∧H p.1=none∧p.1≠X.env.locals∧p.1∉X.fs∧∀ v,p.2.data≠.cell v):Inv X pins' σ H s :=
 ⟨I.ok,I.os,I.bare,I.base,I.loc,I.cell,I.free,I.freeC,fun p hp=>(List.mem_append.mp hp).elim (fun z=>I.pin p (List.mem_append_left _ z)) (h p),I.hok,I.len⟩
theorem nodup_ix {N:List Str}(hN:N.Nodup){i j:Nat}{x:Str}(a:N[i]?=some x)(b:N[j]?=some x):i=j:=by
 obtain ⟨h1,e1⟩:=List.getElem?_eq_some_iff.mp a
 obtain ⟨h2,e2⟩:=List.getElem?_eq_some_iff.mp b
 exact (List.getElem_inj hN).mp (e1.trans e2.symm)
theorem store_ok2 {M:Model}{A:Around}{E:Value->Shared->Prop}{i:Nat}{x:Str}{v:V}{u:Value}{Q:Unit->Shared->Prop}(I:Inv X pins σ H s)(hN:X.N.Nodup)(hi:X.N[i]?=some x)(hx:Loc X.env.scope x)(r:RelV v u)
  (h:∀ s',Inv X pins (σ.set i (some v)) H s'->(∃ a,Heap.SameBut a s.heap s'.heap∧(a=X.env.locals∨X.env.cells.lookup x=some a))->Q () s') (hf:X.fn x=true∨X.env.scope.names.lookup x=some .local:=by first | exact .inl rfl | exact .inr rfl | assumption):wpAny M A (storeName X.env x u) Q E s:=by
 obtain ⟨m,hn,hl⟩:=id I.loc
 have hcls:(X.env.scope.kind == .class||(X.env.scope.kind == .module&&X.env.locals != X.env.globals))=false:=by rw [I.ok.kind];rfl
 have hiσ:i<σ.length:=by rw [I.len];exact (List.getElem?_eq_some_iff.mp hi).1
 have cne:=I.cne
 have tracked:∀ {a:Addr} {h':Heap},(∃ o,s.heap.get? a=some o∧H a=none)->Heap.SameBut a s.heap h'->HOk X.prog X.w H h':=fun {a h'} ha hs b ob e=>by
  obtain ⟨_,_,hfree⟩:=ha
  refine (I.hok b ob e).stay (fun c w' hc q=>(hs.2 c ?_).trans q) (fun _ q=>q) fun _ _ q=>q
  rintro rfl
  rcases hc with rfl | hc
  ·rw [hfree] at e;cases e
  ·rw [hfree] at hc;cases hc
 rcases hx with hk | hk
 ·refine wpAny_storeName_local hk hn (fun h' hn' hs=>?_) hcls
  obtain ⟨oL,_,_,hoL,_⟩:=id hn
  refine h _ ⟨I.ok,I.os,I.bare,⟨fun b o e n hb hx=>?_,fun b o e n hb hx=>?_,I.base.free,fun b o e hx=>?_,I.base.tups,I.base.frzs,I.base.tbls⟩,⟨_,hn',fun j y v' e1 e2 e3=>?_⟩,fun y c e=>?_,I.free,I.freeC,fun p hp=>?_,tracked ⟨oL,hoL,I.free⟩ hs,by simpa using I.len⟩ ⟨_,hs,.inl rfl⟩
  ·exact (hs.2 b (Nat.ne_of_lt (Nat.lt_of_lt_of_le (Heap.lt_size e) I.ok.above))).trans (I.base.keep b o e n hb hx)
  ·obtain ⟨sl,e1⟩:=I.base.slot b o e n hb hx
   exact ⟨sl,(hs.2 b (Nat.ne_of_lt (Nat.lt_of_lt_of_le (Heap.lt_size e) I.ok.above))).trans e1⟩
  ·obtain ⟨o',e1⟩:=I.base.there b o e hx
   exact ⟨o',(hs.2 b (Nat.ne_of_lt (Nat.lt_of_lt_of_le (Heap.lt_size e) I.ok.above))).trans e1⟩
  ·by_cases hj:j=i
   ·subst hj
    rw [hi] at e1;cases e1
    rw [List.getElem?_set_self hiσ] at e2
    cases e2
    exact ⟨u,r,.inl ⟨hk,by simp⟩⟩
   ·rw [List.getElem?_set_ne (Ne.symm hj)] at e2
    obtain ⟨u',r',q⟩:=hl j y v' e1 e2 e3
    refine ⟨u',r',?_⟩
    rcases q with ⟨k,e⟩ | ⟨k,c,e,z⟩
    ·refine .inl ⟨k,?_⟩
     have:y≠x:=fun e=>hj (nodup_ix hN e1 (e▸hi))
     simp [this,e]
    ·exact .inr ⟨k,c,e,z.sameBut hs (cne y c e)⟩
  ·obtain ⟨w',z⟩:=I.cell y c e
   exact ⟨w',z.sameBut hs (cne y c e)⟩
  ·obtain ⟨e,n,ne,nf,d⟩:=I.pin p hp
   exact ⟨(hs.2 p.1 ne).trans e,n,ne,nf,d⟩
 ·have hfn:X.fn x=true:=by
   rcases hf with z | z
   ·exact z
   ·rw [z] at hk;cases hk
  obtain ⟨c,hc⟩:=I.ok.has x (.inl hk)
  obtain ⟨w',z⟩:=I.cell x c hc
  refine wpAny_storeName_cell I.ok.kind hk hc z (fun h' hc' hs=>?_)
  obtain ⟨oc,hoc,hocd⟩:=id z
  refine h { s with heap:=h' } ⟨I.ok,I.os,I.bare,⟨fun b o e n hb hx=>?_,fun b o e n hb hx=>?_,I.base.free,fun b o e hx=>?_,I.base.tups,I.base.frzs,I.base.tbls⟩,⟨m,hn.sameBut hs (Ne.symm (cne x c hc)),fun j y v' e1 e2 e3=>?_⟩,fun y c' e=>?_,I.free,I.freeC,fun p hp=>?_,tracked ⟨oc,hoc,I.freeC x c hc⟩ hs,by simpa using I.len⟩ ⟨c,hs,.inr hc⟩
  ·exact (hs.2 b (Nat.ne_of_lt (Nat.lt_of_lt_of_le (Heap.lt_size e) (I.ok.cab x c hfn hc)))).trans (I.base.keep b o e n hb hx)
  ·obtain ⟨sl,e1⟩:=I.base.slot b o e n hb hx
   exact ⟨sl,(hs.2 b (Nat.ne_of_lt (Nat.lt_of_lt_of_le (Heap.lt_size e) (I.ok.cab x c hfn hc)))).trans e1⟩
  ·obtain ⟨o',e1⟩:=I.base.there b o e hx
   exact ⟨o',(hs.2 b (Nat.ne_of_lt (Nat.lt_of_lt_of_le (Heap.lt_size e) (I.ok.cab x c hfn hc)))).trans e1⟩
  ·by_cases hj:j=i
   ·subst hj
    rw [hi] at e1;cases e1
    rw [List.getElem?_set_self hiσ] at e2
    cases e2
    exact ⟨u,r,.inr ⟨.inl hk,c,hc,hc'⟩⟩
   ·rw [List.getElem?_set_ne (Ne.symm hj)] at e2
    obtain ⟨u',r',q⟩:=hl j y v' e1 e2 e3
    refine ⟨u',r',?_⟩
    rcases q with q | ⟨k,c',e,z'⟩
    ·exact .inl q
    ·refine .inr ⟨k,c',e,z'.sameBut hs ?_⟩
     rintro rfl
     exact hj (nodup_ix hN e1 (I.ok.inj _ _ _ e hc▸hi))
  ·by_cases hcc:c'=c
   ·subst hcc;exact ⟨_,hc'⟩
   ·obtain ⟨w2,z2⟩:=I.cell y c' e
    exact ⟨w2,z2.sameBut hs hcc⟩
  ·obtain ⟨e,n,ne,nf,d⟩:=I.pin p hp
   refine ⟨(hs.2 p.1 ?_).trans e,n,ne,nf,d⟩
   intro q
   rw [q,hoc] at e
   have q':oc=p.2:=Option.some.inj e
   exact d w' (by rw [<- q'];exact hocd)
theorem store_ok {M:Model}{A:Around}{E:Value->Shared->Prop}{i:Nat}{x:Str}{v:V}{u:Value}{Q:Unit->Shared->Prop}(I:Inv X pins σ H s)(hN:X.N.Nodup)(hi:X.N[i]?=some x)(hx:Loc X.env.scope x)(r:RelV v u)
  (h:∀ s',Inv X pins (σ.set i (some v)) H s'->Q () s') (hf:X.fn x=true∨X.env.scope.names.lookup x=some .local:=by first | exact .inl rfl | exact .inr rfl | assumption):wpAny M A (storeName X.env x u) Q E s :=
 store_ok2 I hN hi hx r (fun s' I' _=>h s' I') hf
theorem Inv.call' {s':Shared}{ch:List Addr}(I:Inv X pins σ H s)(ho:s'.os=s.os)(u:Un (frs X.stack) ch H H' s.heap s'.heap)(hok:HOk X.prog X.w H' s'.heap)(hg:AllBare s'.gens)
  (hch:∀ b∈ch,(b∈X.ex∨X.s₀.heap.objs.size<=b)∧b≠X.env.locals∧(∀ x c,X.env.cells.lookup x=some c->c≠b)∧∀ p∈X.pn++pins,p.1≠b):Inv X pins σ H' s':=by
 obtain ⟨h',g',d',t',o'⟩:=s'
 have e:o'=s.os:=ho
 subst e
 exact I.call (g':=g') (t':=t') (d':=d') u hok hg hch
end
abbrev XK:=Value->Option Addr->Hp->Prop
abbrev St:=List (Option V)
abbrev VK:=V->Hp->Prop
abbrev TE:=St->Hp->VK->Prop
abbrev TT:=St->Hp->(Bool->Hp->Prop)->Prop
abbrev TA:=St->Hp->(List V->Hp->Prop)->Prop
set_option genInjectivity false in
structure Ends where
 nx:St->Hp->Prop
 rt:VK
 bk:St->Hp->Prop:=fun _ _=>False
 ct:St->Hp->Prop:=fun _ _=>False
abbrev TS:=Ends->St->Hp->Prop
def EP (X:Cx)(pins:List (Addr×Obj))(σ:St)(Q:VK)(u:Value)(s':Shared):Prop:=∃ v H',Inv X pins σ H' s'∧RelV v u∧Q v H'
def TP (X:Cx)(pins:List (Addr×Obj))(σ:St)(Q:Bool->Hp->Prop)(b:Bool)(s':Shared):Prop:=∃ H',Inv X pins σ H' s'∧Q b H'
def AP (X:Cx)(pins:List (Addr×Obj))(σ:St)(Q:List V->Hp->Prop)(us:List Value)(s':Shared):Prop:=∃ vs H',Inv X pins σ H' s'∧Vals vs us∧Q vs H'
def SP (X:Cx)(pins:List (Addr×Obj))(D:Ends)(f:Flow)(s':Shared):Prop :=
 match f with
 | .next=>∃ σ' H',Inv X pins σ' H' s'∧D.nx σ' H'
 | .brk=>∃ σ' H',Inv X pins σ' H' s'∧D.bk σ' H'
 | .cont=>∃ σ' H',Inv X pins σ' H' s'∧D.ct σ' H'
 | .ret u=>∃ v σ' H',Inv X pins σ' H' s'∧RelV v u∧D.rt v H'
def PE (X:Cx)(e:Expr)(t:TE):Prop :=
 ∀ (pins:List (Addr×Obj)) (s:Shared) (σ:St) (H:Hp) (Q:VK),Inv X pins σ H s->t σ H Q->wpAny (model X.prog X.w) X.A (eval e X.env) (EP X pins σ Q) X.xe s
def PT (X:Cx)(e:Expr)(t:TT):Prop :=
 ∀ (pins:List (Addr×Obj)) (s:Shared) (σ:St) (H:Hp) (Q:Bool->Hp->Prop),Inv X pins σ H s->t σ H Q->wpAny (model X.prog X.w) X.A (isTrue e X.env (eval e X.env)) (TP X pins σ Q) X.xe s
def PW (X:Cx)(e:Expr)(t:TT):Prop :=
 ∀ (whole:Sem Value) (pins:List (Addr×Obj)) (s:Shared) (σ:St) (H:Hp) (Q:Bool->Hp->Prop),Inv X pins σ H s->t σ H Q->wpAny (model X.prog X.w) X.A (isTrue e X.env whole) (TP X pins σ Q) X.xe s
theorem PW.pt {X:Cx}{e:Expr}{t:TT}(h:PW X e t):PT X e t:=h _
def PA (X:Cx)(es:List Expr)(t:TA):Prop :=
 ∀ (pos:Pos) (pins:List (Addr×Obj)) (s:Shared) (σ:St) (H:Hp) (Q:List V->Hp->Prop),Inv X pins σ H s->t σ H Q->wpAny (model X.prog X.w) X.A (spliced (backTo pos (starEach es X.env))) (AP X pins σ Q) X.xe s
def PS (X:Cx)(st:Stmt)(t:TS):Prop :=
 ∀ (pins:List (Addr×Obj)) (s:Shared) (σ:St) (H:Hp) (D:Ends),Inv X pins σ H s->t D σ H->wpAny (model X.prog X.w) X.A (exec st X.env) (SP X pins D) X.xe s
def PSs (X:Cx)(st:List Stmt)(t:TS):Prop :=
 ∀ (pins:List (Addr×Obj)) (s:Shared) (σ:St) (H:Hp) (D:Ends),Inv X pins σ H s->t D σ H->wpAny (model X.prog X.w) X.A (execs st X.env) (SP X pins D) X.xe s
theorem thn {α:Type}{t:Sem α}{Q Q':α->Shared->Prop}{M:Model}{A:Around}{E:Value->Shared->Prop}{s:Shared}(h:wpAny M A t Q E s)(hQ:∀ a s,Q a s->Q' a s):wpAny M A t Q' E s:=wpAny_mono h hQ fun _ _ x=>x
end L2
namespace L2
open PySem PySem.Spec PyProof.Rows
section
variable {X:Cx}
def tVar (i:Nat):TE:=fun σ H Q=>∃ v,σ[i]?=some (some v)∧Q v H
def tC (v:V):TE:=fun _ H Q=>Q v H
theorem pe_var {i:Nat}{x:Str}{pos:Pos}(hN:X.N[i]?=some x)(hv:Vis X.env.scope x)(hd:(x==("__debug__" : Str))=false:=by decide)(hcd:(x==("__classdict__" : Str))=false:=by decide):PE X (.Name x pos) (tVar i):=by
 intro pins s σ H Q I h
 obtain ⟨v,e,h⟩:=h
 obtain ⟨m,hn,hl⟩:=I.loc
 obtain ⟨u,r,l⟩:=hl i x v hN e hv
 have fin:EP X pins σ Q u s:=⟨v,H,I,r,h⟩
 rcases l with ⟨hk,hm⟩ | ⟨hk,c,hc,hcell⟩
 ·exact wpAny_Name (wpAny_loadName_local I.ok.kind hk hn hm fin) hd
 ·rcases hk with hk | hk
  ·exact wpAny_Name (wpAny_loadName_cell I.ok.kind hk hc hcell fin) hd
  ·exact wpAny_Name (wpAny_loadName_free I.ok.kind hk hc hcell fin hcd) hd
theorem pe_int {i j pos}:PE X (.Constant (.int i) j pos) (tC (.int i)):=fun _ _ _ H _ I h=>wpAny_Constant_int ⟨.int i,H,I.tok _,⟨_,rfl⟩,h⟩
theorem pe_bl {b j pos}:PE X (.Constant (.bool b) j pos) (tC (.bl b)):=fun _ _ _ H _ I h=>Constant_bool ⟨.bl b,H,I,rfl,h⟩
theorem pe_non {j pos}:PE X (.Constant .none j pos) (tC .non):=fun _ _ _ H _ I h=>Constant_none ⟨.non,H,I,rfl,h⟩
theorem pe_str {x j pos}:PE X (.Constant (.str x) j pos) (tC (.str x)):=fun _ _ _ H _ I h=>Calls.Constant_str ⟨.str x,H,I.tok _,⟨_,rfl⟩,h⟩
def Gl (X:Cx)(x:Str):Prop:=X.env.kindOf x=some .globalImplicit
theorem ld_glob {E:Value->Shared->Prop}{pins:List (Addr×Obj)}{s:Shared}{σ:St}{H:Hp}{x:Str}{u:Value}{pos:Pos}{Q:Value->Shared->Prop}(I:Inv X pins σ H s)(hg:Gl X x)(hm:X.mg x=some u)(h:Q u s)
  (hd:(x==("__debug__" : Str))=false:=by decide):wpAny (model X.prog X.w) X.A (eval (.Name x pos) X.env) Q E s :=
 Calls.Name_function_global I.ok.kind hg (Calls.loadGlobal_global (by rw [I.ok.glob];exact I.mod.glob.keeps I.bk) hm h) hd
theorem ld_blt {E:Value->Shared->Prop}{pins:List (Addr×Obj)}{s:Shared}{σ:St}{H:Hp}{x:Str}{u:Value}{pos:Pos}{Q:Value->Shared->Prop}(I:Inv X pins σ H s)(hg:Gl X x)(hm:X.mg x=none)(hv:bootBuiltins x=some u)(h:Q u s)
  (hn:x ≠ "__name__" := by decide) (hd:(x==("__debug__" : Str))=false:=by decide):wpAny (model X.prog X.w) X.A (eval (.Name x pos) X.env) Q E s:=by
 obtain ⟨mb,h1,h2⟩:=I.mod.blt
 exact Calls.Name_function_global I.ok.kind hg (Calls.loadGlobal_builtin (by rw [I.ok.glob];exact I.mod.glob.keeps I.bk) hm (by rw [I.ok.blt];exact h1.keeps I.bk) ((h2 x hn).trans hv) h) hd
theorem pe_glob {x:Str}{v:V}{u:Value}{pos:Pos}(hg:Gl X x)(hm:X.mg x=some u)(r:RelV v u)(hd:(x==("__debug__" : Str))=false:=by decide):PE X (.Name x pos) (tC v) :=
 fun _ _ _ H _ I h=>ld_glob I hg hm ⟨v,H,I,r,h⟩ hd
theorem pe_bltn {x:Str}{v:V}{u:Value}{pos:Pos}(hg:Gl X x)(hm:X.mg x=none)(hv:bootBuiltins x=some u)(r:RelV v u)(hn:x ≠ "__name__" := by decide)(hd:(x==("__debug__" : Str))=false:=by decide):PE X (.Name x pos) (tC v) :=
 fun _ _ _ H _ I h=>ld_blt I hg hm hv ⟨v,H,I,r,h⟩ hn hd
variable {a b:Expr}{ta tb:TE}{pos:Pos}
def PC (X:Cx)(op:CmpOp)(a b:Expr)(t:TE):Prop :=
 ∀ (pins:List (Addr×Obj)) (s:Shared) (σ:St) (H:Hp) (Q:VK),Inv X pins σ H s->t σ H Q ->
  wpAny (model X.prog X.w) X.A (eval a X.env) (fun v s₁=>wpAny (model X.prog X.w) X.A (eval b X.env) (fun u s₂=>wpAny (model X.prog X.w) X.A (compareOp op v u) (EP X pins σ Q) X.xe s₂) X.xe s₁) X.xe s
theorem nobehind (b:Expr){op:CmpOp}(h:op≠.In)(h2:op≠.NotIn):behindInMarks op b=false:=by
 have e1:(op==CmpOp.In)=false:=by cases op <;> first | rfl | exact absurd rfl h
 have e2:(op==CmpOp.NotIn)=false:=by cases op <;> first | rfl | exact absurd rfl h2
 cases b <;> simp [behindInMarks,e1,e2]
def tIsN (ta:TE):TE:=fun σ H Q=>ta σ H fun x H1=>Q (.bl (decide (x = .non))) H1
theorem RelV.none_iff {x:V}{v:Value}(r:RelV x v):(v==Value.none)=decide (x = .non):=by
 cases x with
 | non=>cases r;rfl
 | bl _=>cases r;rfl
 | int _=>obtain ⟨t,rfl⟩:=r;rfl
 | str _=>obtain ⟨t,rfl⟩:=r;rfl
 | byt _=>obtain ⟨t,rfl⟩:=r;rfl
 | flt _=>obtain ⟨t,rfl⟩:=r;rfl
 | ref _=>cases r;rfl
 | ty _=>cases r;rfl
theorem pc_isN {j pos'}(ha:PE X a ta):PC X .Is a (.Constant .none j pos') (tIsN ta):=by
 intro pins s σ H Q I h
 refine thn (ha pins s σ H _ I h) fun v s1 ⟨x,H1,I1,r1,q1⟩=>?_
 exact Constant_none (is_none_gen ⟨.bl _,H1,I1,by rw [r1.none_iff];rfl,q1⟩)
def tB (t:TE):TT:=fun σ H Q=>t σ H fun x H1=>∃ c,x = .bl c∧Q c H1
theorem pt_cmp {op:CmpOp}{t:TE}(h:PC X op a b t)(h1:behindInMarks op b=false:=by first | exact nobehind _ (by decide) (by decide) | rfl):PT X (.Compare a [op] [b] pos) (tB t):=by
 intro pins s σ H Q I hw
 refine wpAny_isTrue_Compare1 (thn (h pins s σ H _ I hw) fun v s1 h1=>thn h1 fun u s2 h2=>thn h2 fun c s3 ⟨x,H1,I1,r1,q1⟩=>?_) h1
 obtain ⟨d,rfl,q⟩:=q1
 cases r1
 exact wpAny_truthy_bool ⟨H1,I1,q⟩
theorem pt_val {e:Expr}{t:TE}(h:PE X e t)(he:∀ whole,isTrue e X.env whole=(do let v <- whole;standAt e.pos;holding [v] (truthy v)):=by intro _;rfl):PT X e (tB t):=by
 intro pins s σ H Q I hw
 refine isTrue_plain (thn (h pins s σ H _ I hw) fun v s1 ⟨x,H1,I1,r1,q1⟩=>?_) (he _)
 obtain ⟨d,rfl,q⟩:=q1
 cases r1
 exact wpAny_truthy_bool ⟨H1,I1,q⟩
variable {tA tB':TT}{rest:List Expr}
def tAnd (t u:TT):TT:=fun σ H Q=>t σ H fun c H1=>if c=true then u σ H1 Q else Q false H1
def tOr (t u:TT):TT:=fun σ H Q=>t σ H fun c H1=>if c=true then Q true H1 else u σ H1 Q
def tNot (t:TT):TT:=fun σ H Q=>t σ H fun c H1=>Q (!c) H1
theorem pw_and1 (ha:PT X a tA):PW X (.BoolOp .And [a] pos) tA:=by
 intro wh pins s σ H Q I h
 refine isTrue_and (thn (ha pins s σ H Q I h) fun c s1 e=>?_)
 cases c with
 | true=>exact isTrue_and_nil e
 | false=>exact e
theorem pw_or1 (ha:PT X a tA):PW X (.BoolOp .Or [a] pos) tA:=by
 intro wh pins s σ H Q I h
 refine isTrue_or (thn (ha pins s σ H Q I h) fun c s1 e=>?_)
 cases c with
 | false=>exact isTrue_or_nil e
 | true=>exact e
theorem pw_and (ha:PT X a tA)(hb:PW X (.BoolOp .And (b::rest) pos) tB'):PW X (.BoolOp .And (a::b::rest) pos) (tAnd tA tB'):=by
 intro wh pins s σ H Q I h
 refine isTrue_and (thn (ha pins s σ H _ I h) fun c s1 ⟨H1,I1,q1⟩=>?_)
 cases c with
 | true=>exact hb wh pins s1 σ H1 Q I1 q1
 | false=>exact ⟨H1,I1,q1⟩
theorem pw_or (ha:PT X a tA)(hb:PW X (.BoolOp .Or (b::rest) pos) tB'):PW X (.BoolOp .Or (a::b::rest) pos) (tOr tA tB'):=by
 intro wh pins s σ H Q I h
 refine isTrue_or (thn (ha pins s σ H _ I h) fun c s1 ⟨H1,I1,q1⟩=>?_)
 cases c with
 | true=>exact ⟨H1,I1,q1⟩
 | false=>exact hb wh pins s1 σ H1 Q I1 q1
theorem pt_not (ha:PT X a tA):PT X (.UnaryOp .Not a pos) (tNot tA):=by
 intro pins s σ H Q I h
 exact isTrue_not (ha pins s σ H (fun c H1=>Q (!c) H1) I h)
def tAndV (ta tb:TE):TE:=fun σ H Q=>ta σ H fun x H1=>∃ c,x = .bl c∧if c=true then tb σ H1 Q else Q (.bl false) H1
def tNotV (ta:TE):TE:=fun σ H Q=>ta σ H fun x H1=>∃ c,x = .bl c∧Q (.bl (!c)) H1
theorem pe_one {op}{t:TE}(h:PE X a t):PE X (.BoolOp op [a] pos) t:=fun pins s σ H Q I hw=>BoolOp_one (h pins s σ H Q I hw)
theorem pe_and (ha:PE X a ta)(hb:PE X (.BoolOp .And (b::rest) pos) tb):PE X (.BoolOp .And (a::b::rest) pos) (tAndV ta tb):=by
 intro pins s σ H Q I h
 refine BoolOp_and (thn (ha pins s σ H _ I h) fun v s1 ⟨x,H1,I1,r1,q1⟩=>?_)
 obtain ⟨c,rfl,q1⟩:=q1
 cases r1
 refine wpAny_truthy_bool ?_
 cases c with
 | true=>exact hb pins s1 σ H1 Q I1 q1
 | false=>exact ⟨.bl false,H1,I1,rfl,q1⟩
theorem pe_not (ha:PE X a ta):PE X (.UnaryOp .Not a pos) (tNotV ta):=by
 intro pins s σ H Q I h
 refine UnaryOp_ (thn (ha pins s σ H _ I h) fun v s1 ⟨x,H1,I1,r1,q1⟩=>?_)
 obtain ⟨c,rfl,q1⟩:=q1
 cases r1
 exact not_of (wpAny_truthy_bool ⟨.bl (!c),H1,I1,rfl,q1⟩)
def tIf (t:TT)(ta tb:TE):TE:=fun σ H Q=>t σ H fun c H1=>if c=true then ta σ H1 Q else tb σ H1 Q
theorem pe_ifExp {c:Expr}(hc:PT X c tA)(ha:PE X a ta)(hb:PE X b tb):PE X (.IfExp c a b pos) (tIf tA ta tb):=by
 intro pins s σ H Q I h
 refine wpAny_IfExp (thn (hc pins s σ H _ I h) fun d s1 ⟨H1,I1,q1⟩=>?_)
 cases d with
 | true=>exact ha pins s1 σ H1 Q I1 q1
 | false=>exact hb pins s1 σ H1 Q I1 q1
end
end L2
namespace L2
open PySem PySem.Spec PyProof.Rows
def SqL (K:PySem.W.Frag)(H:Hp)(a:Addr)(xs:List V):Prop :=
 Rd H a (.lst xs) ∨
  ∃ (o:Obj) (its:Array Value) (n:Nat),K.lookup a=some o∧o.cls = .type "list" ∧ o.dict=none∧o.data = .seq its n∧its.size<=sizeLine∧Vals xs its.toList
def SqT (K:PySem.W.Frag)(H:Hp)(a:Addr)(xs:List V):Prop :=
 Rd H a (.tup xs) ∨
  ∃ (o:Obj) (its:Array Value) (n:Nat),K.lookup a=some o∧o.cls = .type "tuple" ∧ o.data = .seq its n∧its.size<=sizeLine∧Vals xs its.toList
def absV:Value->Option V
 | .none=>some .non
 | .bool b=>some (.bl b)
 | .int i _=>some (.int i)
 | .str x _=>some (.str x)
 | .bytes b _=>some (.byt b)
 | .float b _=>some (.flt b)
 | .ref a=>some (.ref a)
 | .type n=>some (.ty n)
 | _=>none
theorem RelV.abs {x:V}{u:Value}(r:RelV x u):absV u=some x:=by
 cases x with
 | non=>cases r;rfl
 | bl _=>cases r;rfl
 | int _=>obtain ⟨t,rfl⟩:=r;rfl
 | str _=>obtain ⟨t,rfl⟩:=r;rfl
 | byt _=>obtain ⟨t,rfl⟩:=r;rfl
 | flt _=>obtain ⟨t,rfl⟩:=r;rfl
 | ref _=>cases r;rfl
 | ty _=>cases r;rfl
theorem RelV.inj {x y:V}{u:Value}(r:RelV x u)(q:RelV y u):x=y:=Option.some.inj (r.abs.symm.trans q.abs)
theorem Vals.inj:∀ {xs ys:List V} {us:List Value},Vals xs us->Vals ys us->xs=ys
 | _,_,_,.nil,.nil=>rfl
 | _,_,_,.cons r t,.cons r' t'=>by rw [r.inj r',Vals.inj t t']
section
variable {X:Cx}{pins:List (Addr×Obj)}{σ:St}{H:Hp}{s:Shared}{a:Addr}{xs ys:List V}
theorem SqL.of {K:PySem.W.Frag}(h:H a=some (.lst xs)):SqL K H a xs:=.inl (.inl h)
theorem SqT.of {K:PySem.W.Frag}(h:H a=some (.tup xs)):SqT K H a xs:=.inl (.inl h)
theorem Inv.list (I:Inv X pins σ H s)(h:SqL X.K H a xs):∃ its:List Value,Vals xs its∧PlainL s.heap a its.toArray∧xs.length<=sizeLine:=by
 rcases h with h | ⟨o,its,n,hk,hc,hd,hs,hz,r⟩
 ·obtain ⟨z,its,n,r,e⟩:=h.ok I.hok
  exact ⟨its,r,⟨_,n,e,rfl,rfl,rfl⟩,z⟩
 ·refine ⟨its.toList,r,⟨o,n,I.kIn a o hk,hc,hd,by simpa using hs⟩,?_⟩
  have e:=r.length
  simp only [Array.length_toList] at e
  omega
theorem Inv.tuple (I:Inv X pins σ H s)(h:SqT X.K H a xs):∃ its:List Value,Vals xs its∧IsTup s.heap a its.toArray∧xs.length<=sizeLine:=by
 rcases h with h | ⟨o,its,n,hk,hc,hs,hz,r⟩
 ·obtain ⟨z,its,r,p⟩:=h.ok I.hok
  exact ⟨its,r,p,z⟩
 ·refine ⟨its.toList,r,⟨o,I.kIn a o hk,hc,n,by simpa using hs⟩,?_⟩
  have e:=r.length
  simp only [Array.length_toList] at e
  omega
theorem Inv.list_inj (I:Inv X pins σ H s)(h:SqL X.K H a xs)(h':SqL X.K H a ys):xs=ys:=by
 obtain ⟨its,r,⟨o,n,e,_,_,d⟩,_⟩:=I.list h
 obtain ⟨its',r',⟨o',n',e',_,_,d'⟩,_⟩:=I.list h'
 rw [e] at e';cases e'
 rw [d] at d'
 injection d' with d1 _
 have:its=its':=by simpa using congrArg Array.toList d1
 subst this
 exact r.inj r'
theorem Inv.tuple_inj (I:Inv X pins σ H s)(h:SqT X.K H a xs)(h':SqT X.K H a ys):xs=ys:=by
 obtain ⟨its,r,⟨o,e,_,n,d⟩,_⟩:=I.tuple h
 obtain ⟨its',r',⟨o',e',_,n',d'⟩,_⟩:=I.tuple h'
 rw [e] at e';cases e'
 rw [d] at d'
 injection d' with d1 _
 have:its=its':=by simpa using congrArg Array.toList d1
 subst this
 exact r.inj r'
end
abbrev Cx.wish (X:Cx)(E:Value->Shared->Prop):Cx:={ X with xe:=E }
abbrev Cx.nox (X:Cx):Cx:=X.wish fun _ _=>False
theorem Cx.Ok.wish {X:Cx}(ok:X.Ok)(E:Value->Shared->Prop):(X.wish E).Ok :=
 ⟨ok.mod,ok.kind,ok.glob,ok.blt,ok.above,ok.inj,ok.has,ok.cab,ok.hd,ok.frames,ok.stk,ok.exf,ok.bs,ok.bsz,ok.noex,ok.exfs,ok.funs,ok.frf⟩
theorem Cx.Ok.unwish {X:Cx}{E:Value->Shared->Prop}(ok:(X.wish E).Ok):X.Ok :=
 ⟨ok.mod,ok.kind,ok.glob,ok.blt,ok.above,ok.inj,ok.has,ok.cab,ok.hd,ok.frames,ok.stk,ok.exf,ok.bs,ok.bsz,ok.noex,ok.exfs,ok.funs,ok.frf⟩
section
variable {X:Cx}{pins:List (Addr×Obj)}{σ:St}{H:Hp}{s:Shared}{E:Value->Shared->Prop}
theorem Inv.wish (I:Inv X pins σ H s)(E:Value->Shared->Prop):Inv (X.wish E) pins σ H s:=⟨I.ok.wish E,I.os,I.bare,I.base,I.loc,I.cell,I.free,I.freeC,I.pin,I.hok,I.len⟩
theorem Inv.unwish (I:Inv (X.wish E) pins σ H s):Inv X pins σ H s:=⟨I.ok.unwish,I.os,I.bare,I.base,I.loc,I.cell,I.free,I.freeC,I.pin,I.hok,I.len⟩
theorem SP.unwish {D:Ends}{f:Flow}{s':Shared}(h:SP (X.wish E) pins D f s'):SP X pins D f s':=by
 cases f with
 | next=>obtain ⟨σ',H',I,q⟩:=h;exact ⟨σ',H',I.unwish,q⟩
 | brk=>obtain ⟨σ',H',I,q⟩:=h;exact ⟨σ',H',I.unwish,q⟩
 | cont=>obtain ⟨σ',H',I,q⟩:=h;exact ⟨σ',H',I.unwish,q⟩
 | ret u=>obtain ⟨v,σ',H',I,r,q⟩:=h;exact ⟨v,σ',H',I.unwish,r,q⟩
theorem PSs.nox {st:List Stmt}{t:TS}(h:PSs X.nox st t):PSs X st t:=fun pins s σ H D I hw =>
 wpAny_mono (h pins s σ H D (I.wish _) hw) (fun _ _ q=>q.unwish) fun _ _ z=>False.elim z
end
section
variable {X:Cx}{st:Stmt}{rest:List Stmt}{t u:TS}{e:Expr}{te:TE}{pos:Pos}
def tNext:TS:=fun D σ H=>D.nx σ H
def tSeq (t u:TS):TS:=fun D σ H=>t { D with nx:=u D } σ H
theorem pss_nil:PSs X [] tNext:=fun _ _ σ H _ I h=>wpAny_execs_nil ⟨σ,H,I,h⟩
theorem pss_cons (h1:PS X st t)(h2:PSs X rest u):PSs X (st::rest) (tSeq t u):=by
 intro pins s σ H D I h
 refine wpAny_execs_cons (thn (h1 pins s σ H { D with nx:=u D } I h) fun f s1 q=>?_)
 cases f with
 | next =>
  obtain ⟨σ',H',I',q⟩:=q
  exact h2 pins s1 σ' H' D I' q
 | ret v=>exact q
 | brk=>exact q
 | cont=>exact q
theorem pss_one (h1:PS X st t):PSs X [st] t:=by
 intro pins s σ H D I h
 refine wpAny_execs_cons (thn (h1 pins s σ H D I h) fun f s1 q=>?_)
 cases f with
 | next=>exact wpAny_execs_nil q
 | ret v=>exact q
 | brk=>exact q
 | cont=>exact q
def tBreak:TS:=fun D σ H=>D.bk σ H
theorem ps_break:PS X (.Break pos) tBreak:=fun _ _ σ H _ I h=>wpAny_Break ⟨σ,H,I,h⟩
theorem Inv.quiet {pins:List (Addr×Obj)}{σ:St}{H:Hp}{s:Shared}(I:Inv X pins σ H s):interactive X.env=false:=by simp [interactive,I.ok.kind]
def tDrop (te:TE):TS:=fun D σ H=>te σ H fun _ H1=>D.nx σ H1
theorem ps_expr (he:PE X e te)(hs:swapsWith e none pos.line X.env=pure false:=by rfl):PS X (.Expr e pos) (tDrop te):=by
 intro pins s σ H D I h
 exact wpAny_Expr_any (thn (he pins s σ H _ I h) fun v s1 ⟨x,H1,I1,r1,q1⟩=>⟨σ,H1,I1,q1⟩) I.quiet hs
def tRet (te:TE):TS:=fun D σ H=>te σ H D.rt
theorem ps_ret (he:PE X e te):PS X (.Return (some e) pos) (tRet te):=by
 intro pins s σ H D I h
 exact wpAny_Return_some (thn (he pins s σ H _ I h) fun v s1 ⟨x,H1,I1,r1,q1⟩=>⟨x,σ,H1,I1,r1,q1⟩)
def tIfS (c:TT)(t u:TS):TS:=fun D σ H=>c σ H fun b H1=>if b=true then t D σ H1 else u D σ H1
theorem ps_if {c:Expr}{a b:List Stmt}{tc:TT}(hc:PT X c tc)(ha:PSs X a t)(hb:PSs X b u):PS X (.If c a b pos) (tIfS tc t u):=by
 intro pins s σ H D I h
 refine wpAny_If (thn (hc pins s σ H _ I h) fun d s1 ⟨H1,I1,q1⟩=>?_)
 cases d with
 | true=>exact ha pins s1 σ H1 D I1 q1
 | false=>exact hb pins s1 σ H1 D I1 q1
end
abbrev TG:=V->St->Hp->(St->Hp->Prop)->Prop
abbrev TGs:=List V->St->Hp->(St->Hp->Prop)->Prop
def PG (X:Cx)(target:Expr)(t:TG):Prop :=
 ∀ (pins:List (Addr×Obj)) (s:Shared) (σ:St) (H:Hp) (v:V) (u:Value) (Q:St->Hp->Prop),Inv X pins σ H s->RelV v u->t v σ H Q ->
  wpAny (model X.prog X.w) X.A (assign target X.env u) (fun _ s'=>∃ σ' H',Inv X pins σ' H' s'∧Q σ' H') X.xe s
def PGs (X:Cx)(ts:List Expr)(t:TGs):Prop :=
 ∀ (pins:List (Addr×Obj)) (s:Shared) (σ:St) (H:Hp) (vs:List V) (us:List Value) (Q:St->Hp->Prop),Inv X pins σ H s->Vals vs us->t vs σ H Q ->
  wpAny (model X.prog X.w) X.A (assignInOrder ((assignEach ts X.env).map (·.2)) us) (fun _ s'=>∃ σ' H',Inv X pins σ' H' s'∧Q σ' H') X.xe s
abbrev TSet:=V->V->V->Hp->(Hp->Prop)->Prop
def PSet (X:Cx)(t:TSet):Prop :=
 ∀ (pins:List (Addr×Obj)) (s:Shared) (σ:St) (H:Hp) (o i v:V) (ov iv u:Value) (Q:Hp->Prop),Inv X pins σ H s->RelV o ov->RelV i iv->RelV v u->t o i v H Q ->
  wpAny (model X.prog X.w) X.A (setItem ov iv u) (fun _ s'=>∃ H',Inv X pins σ H' s'∧Q H') X.xe s
section
variable {X:Cx}{pos:Pos}
def gName (i:Nat):TG:=fun v σ H Q=>Q (σ.set i (some v)) H
theorem pg_name {i:Nat}{x:Str}(hN:X.N.Nodup)(hi:X.N[i]?=some x)(hx:Loc X.env.scope x)(hf:X.fn x=true∨X.env.scope.names.lookup x=some .local:=by first | exact .inl rfl | exact .inr rfl | assumption):PG X (.Name x pos) (gName i):=by
 intro pins s σ H v u Q I r h
 exact wpAny_assign_Name (store_ok I hN hi hx r (fun s' I'=>⟨_,H,I',h⟩) hf)
def gNil:TGs:=fun vs σ H Q=>vs=[]∧Q σ H
def gCons (t:TG)(u:TGs):TGs:=fun vs σ H Q=>∃ v r,vs=v::r∧t v σ H fun σ' H'=>u r σ' H' Q
theorem pgs_nil:PGs X [] gNil:=by
 intro pins s σ H vs us Q I r h
 obtain ⟨e,h⟩:=h
 subst e
 cases r
 exact assignInOrder_nil ⟨σ,H,I,h⟩
theorem pgs_cons {e:Expr}{es:List Expr}{t:TG}{u:TGs}(h1:PG X e t)(h2:PGs X es u)
  (hs:(assignEach (e::es) X.env).map (·.2)=assign e X.env::(assignEach es X.env).map (·.2):=by rfl):PGs X (e::es) (gCons t u):=by
 intro pins s σ H vs us Q I r h
 obtain ⟨v,vr,e1,h⟩:=h
 subst e1
 cases r with
 | cons r rr =>
  rw [hs]
  refine assignInOrder_cons (thn (h1 pins s σ H _ _ _ I r h) fun _ s1 ⟨σ1,H1,I1,q1⟩=>?_)
  exact h2 pins s1 σ1 H1 _ _ Q I1 rr q1
def gTup (K:PySem.W.Frag)(n:Nat)(t:TGs):TG:=fun v σ H Q=>∃ a xs,v = .ref a∧SqT K H a xs∧xs.length=n∧t xs σ H Q
theorem pg_tup {es:List Expr}{k:Nat}{t:TGs}{n:Nat}(hc:X.calm=true)(h:PGs X es t)
  (hn:(assignEach es X.env).length=n:=by rfl) (hst:(assignEach es X.env).findIdx? (·.1)=none:=by rfl):PG X (.Tuple es k pos) (gTup X.K n t):=by
 intro pins s σ H v u Q I r hw
 obtain ⟨a,xs,e1,hq,hl,hw⟩:=hw
 subst e1
 cases r
 obtain ⟨its,rv,ht,hz⟩:=I.tuple hq
 refine assign_Tuple_tuple (I.ok.hd hc) ht (by simp [hn,<- hl,rv.length]) hst fun h' hx=>?_
 have I1:Inv X pins σ H { s with heap:=h' }:=I.kept (t':=s.toks) fun b o e=>hx b o (Nat.ne_of_lt (Heap.lt_size e)) e
 exact h pins _ σ H xs _ Q I1 (by simpa using rv) hw
def tAsg (te:TE)(g:TG):TS:=fun D σ H=>te σ H fun x H1=>g x σ H1 D.nx
theorem ps_set {i:Nat}{x:Str}{e:Expr}{te:TE}{pos':Pos}(hN:X.N.Nodup)(hi:X.N[i]?=some x)(hx:Loc X.env.scope x)(he:PE X e te)(hs:swapsWith e (some (.Name x pos')) pos.line X.env=pure false:=by rfl)(hf:X.fn x=true∨X.env.scope.names.lookup x=some .local:=by first | exact .inl rfl | exact .inr rfl | assumption) :
  PS X (.Assign [.Name x pos'] e pos) (tAsg te (gName i)):=by
 intro pins s σ H D I h
 refine wpAny_Assign_Name (thn (he pins s σ H _ I h) fun v s1 ⟨y,H1,I1,r1,q1⟩=>?_) hs
 exact store_ok I1 hN hi hx r1 (fun s2 I2=>⟨_,H1,I2,q1⟩) hf
end
section
variable {X:Cx}{pos:Pos}
def tWhile (c:TT)(tb:TS):TS:=fun D σ H=>∃ W:Nat->St->Hp->Prop,(∃ m,W m σ H)∧∀ m σ H,W m σ H ->
 c σ H fun b H1=>if b=true then ∃ N:St->Hp->Prop,(∀ σ' H',N σ' H'->∃ m',m'<m∧W m' σ' H')∧tb { D with nx:=N,ct:=N,bk:=D.nx } σ H1 else D.nx σ H1
theorem ps_while {c:Expr}{body:List Stmt}{tc:TT}{tb:TS}(hp:PassesOwn (model X.prog X.w) X.A X.env X.xe)(hc:PT X c tc)(hb:PSs X body tb):PS X (.While c body [] pos) (tWhile tc tb):=by
 intro pins s σ H D I h
 obtain ⟨W,⟨m0,w0⟩,turn⟩:=h
 refine wpAny_While (codeAny_whileLoop (fun n s'=>∃ σ' H',Inv X pins σ' H' s'∧W n σ' H') ?_ m0 ⟨σ,H,I,w0⟩)
 rintro n s1 ⟨σ1,H1,I1,w1⟩
 refine wpAny_passesOwn hp (thn (hc pins s1 σ1 H1 _ I1 (turn n σ1 H1 w1)) fun b s2 ⟨H2,I2,q2⟩=>?_)
 cases b with
 | true =>
  obtain ⟨N,hN,q2⟩:=q2
  rw [if_pos rfl]
  refine wpAny_passesOwn hp (thn (hb pins s2 σ1 H2 _ I2 q2) fun f s3 q3=>?_)
  cases f with
  | next =>
   obtain ⟨σ3,H3,I3,n3⟩:=q3
   obtain ⟨m',hm,w3⟩:=hN σ3 H3 n3
   exact ⟨m',hm,σ3,H3,I3,w3⟩
  | cont =>
   obtain ⟨σ3,H3,I3,n3⟩:=q3
   obtain ⟨m',hm,w3⟩:=hN σ3 H3 n3
   exact ⟨m',hm,σ3,H3,I3,w3⟩
  | brk=>exact q3
  | ret v=>exact q3
 | false =>
  rw [if_neg Bool.false_ne_true]
  exact wpAny_execs_nil ⟨σ1,H2,I2,q2⟩
end
set_option genInjectivity false in
structure It where
 go:Nat->Hp->Prop
 yld:Nat->Hp->V->Hp->Prop
 stop:Nat->Hp->Prop
def FpOk (X:Cx)(pins:List (Addr×Obj))(H:Hp)(b:Addr):Prop :=
 H b=none∧b≠X.env.locals∧b∉X.fs∧(b∈X.ex∨X.s₀.heap.objs.size<=b)∧(∀ x c,X.env.cells.lookup x=some c->c≠b)∧∀ p∈X.pn++pins,p.1≠b
theorem Inv.fpOk {X:Cx}{pins:List (Addr×Obj)}{σ:St}{H H':Hp}{s:Shared}{b:Addr}(I:Inv X pins σ H s)(hb:s.heap.objs.size<=b)(hn:H' b=none):FpOk X pins H' b:=by
 refine ⟨hn,Nat.ne_of_gt (Nat.lt_of_lt_of_le I.lt hb),I.nofs hb,.inr (Nat.le_trans I.sz hb),fun x c e z=>?_,fun p hp z=>?_⟩
 ·obtain ⟨v,q⟩:=I.cell x c e
  exact absurd (Nat.lt_of_lt_of_le q.lt (by rw [z];exact hb)) (Nat.lt_irrefl _)
 ·exact absurd (Nat.lt_of_lt_of_le (Heap.lt_size (I.pin p hp).1) (by rw [z];exact hb)) (Nat.lt_irrefl _)
set_option genInjectivity false in
structure Turn (P:Program)(w:World)(K:PySem.W.Frag)(tg:Expr)(J:It)(fp:List Addr)(it:Addr)(tn:Nat->Heap->Prop):Prop where
 mem:it∈fp
 obj:∀ i h,tn i h->∀ b∈fp,∃ o,h.get? b=some o∧∀ v,o.data≠.cell v
 keep:∀ i h h',tn i h->(∀ b∈fp,∀ o,h.get? b=some o->h'.get? b=some o)->tn i h'
 item:∀ (X:Cx),X.prog=P->X.w=w->X.K=K->X.calm=true->∀ (i:Nat) (pins:List (Addr×Obj)) (s:Shared) (σ:St) (H:Hp) (E:Value->Shared->Prop),Inv X pins σ H s->(∀ b∈fp,FpOk X pins H b)->tn i s.heap->J.go i H ->
  wpAny (model P w) X.A (pyNext (.ref it)) (fun r s1=>∃ u,r=some u ∧
   wpAny (model P w) X.A (letOwnedTupleGo tg (.ref it) u) (fun _ s2=>∃ x H',Inv X pins σ H' s2∧RelV x u∧J.yld i H x H'∧tn (i+1) s2.heap∧∀ b∈fp,H' b=none) E s1) E s
 done:∀ (X:Cx),X.prog=P->X.w=w->X.K=K->X.calm=true->∀ (i:Nat) (pins:List (Addr×Obj)) (s:Shared) (σ:St) (H:Hp) (E:Value->Shared->Prop),Inv X pins σ H s->(∀ b∈fp,FpOk X pins H b)->tn i s.heap->J.stop i H ->
  wpAny (model P w) X.A (pyNext (.ref it)) (fun r s1=>r=none∧Inv X pins σ H s1) E s
 self:∀ (A:Around) (i:Nat) (s:Shared) (Q:Value->Shared->Prop) (E:Value->Shared->Prop),tn i s.heap->Q (.ref it) s->wpAny (model P w) A (pyIter (.ref it)) Q E s
abbrev TI:=St->Hp->(It->Hp->Prop)->Prop
def PIE (X:Cx)(pins:List (Addr×Obj))(σ:St)(tg:Expr)(R:It->Hp->Prop)(itv:Value)(s2:Shared):Prop :=
 ∃ (it:Addr) (fp:List Addr) (tn:Nat->Heap->Prop) (J:It) (H':Hp),itv = .ref it∧Inv X pins σ H' s2∧Turn X.prog X.w X.K tg J fp it tn∧tn 0 s2.heap∧(∀ b∈fp,FpOk X pins H' b)∧R J H'
def PI (X:Cx)(tg iter:Expr)(wi:TI):Prop :=
 ∀ (pins:List (Addr×Obj)) (s:Shared) (σ:St) (H:Hp) (R:It->Hp->Prop),Inv X pins σ H s->wi σ H R ->
  wpAny (model X.prog X.w) X.A (eval iter X.env) (fun v s1=>wpAny (model X.prog X.w) X.A (pyIter v) (PIE X pins σ tg R) X.xe s1) X.xe s
theorem go_of {M : Model} {A : Around} {E : Value → Shared → Prop} {s : Shared} {tg : Expr} {it : Addr} {u : Value} {o : Obj} {n : String} {vs : Array Value} {Q : Unit → Shared → Prop} (ho : s.heap.get? it = some o) (hc : o.cls = .type n) (hd : o.data = .fields vs)
    (hn : ["enumerate", "zip", "dict_itemiterator", "dict_reverseitemiterator", "odict_iterator", "itertools.zip_longest", "itertools.pairwise"].contains n = false) (hQ : Q () s) : wpAny M A (letOwnedTupleGo tg (.ref it) u) Q E s := by
  unfold letOwnedTupleGo
  cases tg <;> first
    | exact wpAny_pure hQ
    | (cases u <;> first
        | exact wpAny_pure hQ
        | (refine wpAny_bind (wpAny_load ho ?_)
           rw [hc, hd]
           show wpAny M A (if (["enumerate", "zip", "dict_itemiterator", "dict_reverseitemiterator", "odict_iterator", "itertools.zip_longest", "itertools.pairwise"].contains n && vs[0]? == some (rawInt _)) = true then _ else _) Q E s
           rw [if_neg (by intro h; rw [hn, Bool.false_and] at h; cases h)]
           exact wpAny_pure hQ))
def Itl (K:PySem.W.Frag)(a:Addr):It :=
 ⟨fun i H=>∃ xs x,SqL K H a xs∧xs[i]?=some x,fun i H x H'=>H'=H∧∀ xs,SqL K H a xs->xs[i]?=some x,fun i H=>∃ xs,SqL K H a xs∧xs.length<=i⟩
def Itt (K:PySem.W.Frag)(a:Addr):It :=
 ⟨fun i H=>∃ xs x,SqT K H a xs∧xs[i]?=some x,fun i H x H'=>H'=H∧∀ xs,SqT K H a xs->xs[i]?=some x,fun i H=>∃ xs,SqT K H a xs∧xs.length<=i⟩
def Itr (lo:Int)(n:Nat):It:=⟨fun i _=>i<n,fun i H x H'=>H'=H∧x = .int (lo+i),fun i _=>n<=i⟩
theorem turn_list {P:Program}{w:World}{K:PySem.W.Frag}{tg:Expr}(a it:Addr):Turn P w K tg (Itl K a) [it] it (fun i h=>h.IsListIter it a i) where
 mem:=by simp
 obj:=fun i h st b hb=>by
  have e:b=it:=by simpa using hb
  subst e
  obtain ⟨o,e,c,d⟩:=st
  exact ⟨o,e,fun v z=>by rw [d] at z;cases z⟩
 keep:=fun i h h' st k=>st.at fun o e=>k it (by simp) o e
 item:=by
  intro X hP hw hK hc i pins s σ H E I hf st hg
  subst hP hw hK
  obtain ⟨xs,x,hq,hx⟩:=hg
  obtain ⟨its,rv,p,hz⟩:=I.list hq
  obtain ⟨u,hu,ru⟩:=rv.get hx
  obtain ⟨f0,f1,f2,f3,f4,f5⟩:=hf it (by simp)
  refine wpAny_pyNext_list_item st p.isList (x:=u) (by simpa using hu) fun h' st' sb=>?_
  have I1:Inv X pins σ H { s with heap:=h' }:=I.turned (t':=s.toks) (fun b o hb e=>(sb.2 b hb).trans e) f0 f1 f3 f4 f5
  obtain ⟨o,e,c,d⟩:=id st'
  exact ⟨u,rfl,go_of (s:={ s with heap:=h' }) e c d (by decide) ⟨x,H,I1,ru,⟨rfl,fun ys hy=>by rw [I.list_inj hy hq];exact hx⟩,st',fun b hb=>(hf b hb).1⟩⟩
 done:=by
  intro X hP hw hK hc i pins s σ H E I hf st hg
  subst hP hw hK
  obtain ⟨xs,hq,hx⟩:=hg
  obtain ⟨its,rv,p,hz⟩:=I.list hq
  obtain ⟨f0,f1,f2,f3,f4,f5⟩:=hf it (by simp)
  have hl:=rv.length
  exact wpAny_pyNext_list_end (I.ok.hd hc) st p.isList (by simp;omega) fun h' eb=>⟨rfl,I.turned (t':=s.toks) (fun b o hb e=>eb b o hb e) f0 f1 f3 f4 f5⟩
 self:=fun _ _ _ _ _ st h=>wpAny_pyIter_listiter st h
theorem turn_tuple {P:Program}{w:World}{K:PySem.W.Frag}{tg:Expr}(a it:Addr):Turn P w K tg (Itt K a) [it] it (fun i h=>h.IsTupleIter it a i) where
 mem:=by simp
 obj:=fun i h st b hb=>by
  have e:b=it:=by simpa using hb
  subst e
  obtain ⟨o,e,c,d⟩:=st
  exact ⟨o,e,fun v z=>by rw [d] at z;cases z⟩
 keep:=fun i h h' st k=>st.at fun o e=>k it (by simp) o e
 item:=by
  intro X hP hw hK hc i pins s σ H E I hf st hg
  subst hP hw hK
  obtain ⟨xs,x,hq,hx⟩:=hg
  obtain ⟨its,rv,p,hz⟩:=I.tuple hq
  obtain ⟨u,hu,ru⟩:=rv.get hx
  obtain ⟨f0,f1,f2,f3,f4,f5⟩:=hf it (by simp)
  refine wpAny_pyNext_tuple_item st (show s.heap.IsTuple a its.toArray from p) (x:=u) (by simpa using hu) fun h' st' sb=>?_
  have I1:Inv X pins σ H { s with heap:=h' }:=I.turned (t':=s.toks) (fun b o hb e=>(sb.2 b hb).trans e) f0 f1 f3 f4 f5
  obtain ⟨o,e,c,d⟩:=id st'
  exact ⟨u,rfl,go_of (s:={ s with heap:=h' }) e c d (by decide) ⟨x,H,I1,ru,⟨rfl,fun ys hy=>by rw [I.tuple_inj hy hq];exact hx⟩,st',fun b hb=>(hf b hb).1⟩⟩
 done:=by
  intro X hP hw hK hc i pins s σ H E I hf st hg
  subst hP hw hK
  obtain ⟨xs,hq,hx⟩:=hg
  obtain ⟨its,rv,p,hz⟩:=I.tuple hq
  obtain ⟨f0,f1,f2,f3,f4,f5⟩:=hf it (by simp)
  have hl:=rv.length
  exact wpAny_pyNext_tuple_end (I.ok.hd hc) st (show s.heap.IsTuple a its.toArray from p) (by simp;omega) fun h' eb=>⟨rfl,I.turned (t':=s.toks) (fun b o hb e=>eb b o hb e) f0 f1 f3 f4 f5⟩
 self:=fun _ _ _ _ _ st h=>wpAny_pyIter_tupleiter st h
theorem turn_range {P:Program}{w:World}{K:PySem.W.Frag}{tg:Expr}(it:Addr)(lo:Int)(n:Nat):Turn P w K tg (Itr lo n) [it] it (fun i h=>IsRangeIter h it (lo+(i:Nat)*1) ((n:Int)-(i:Nat)) 1) where
 mem:=by simp
 obj:=fun i h st b hb=>by
  have e:b=it:=by simpa using hb
  subst e
  exact ⟨_,st,fun v z=>by
   have z':Data.fields _=Data.cell v:=z
   cases z'⟩
 keep:=fun i h h' st k=>k it (by simp) _ st
 item:=by
  intro X hP hw hK hc i pins s σ H E I hf st hg
  subst hP hw hK
  obtain ⟨f0,f1,f2,f3,f4,f5⟩:=hf it (by simp)
  have W:=Walks.range (prog:=X.prog) (w:=X.w) (I.ok.hd hc) it lo 1 n
  refine W.item i s _ _ hg st fun v h' tk hv st' kk=>?_
  obtain ⟨t,rfl⟩:=hv
  have I1:Inv X pins σ H { s with heap:=h',toks:=tk }:=I.turned (fun b o hb e=>kk b o (by simpa using hb) e) f0 f1 f3 f4 f5
  refine ⟨_,rfl,go_of (s:={ s with heap:=h',toks:=tk }) (n := "range_iterator") st' rfl rfl (by decide) ⟨.int (lo+i),H,I1,⟨t,?_⟩,⟨rfl,rfl⟩,st',fun b hb=>(hf b hb).1⟩⟩
  rw [Int.mul_one]
 done:=by
  intro X hP hw hK hc i pins s σ H E I hf st hg
  subst hP hw hK
  obtain ⟨f0,f1,f2,f3,f4,f5⟩:=hf it (by simp)
  exact wpAny_pyNext_range_end (I.ok.hd hc) st (by have:n<=i:=hg;omega) fun h' eb=>⟨rfl,I.turned (t':=s.toks) (fun b o hb e=>eb b o hb e) f0 f1 f3 f4 f5⟩
 self:=fun _ _ _ _ _ st h=>wpAny_pyIter_rangeiter st h
end L2
namespace L2
open PySem PySem.Spec PyProof.Rows
section
variable {X:Cx}{tg:Expr}
def iList (K:PySem.W.Frag)(tl:TE):TI:=fun σ H R=>tl σ H fun x H1=>∃ a,x = .ref a∧(∃ xs,SqL K H1 a xs)∧R (Itl K a) H1
theorem pi_list {l:Expr}{tl:TE}(hl:PE X l tl):PI X tg l (iList X.K tl):=by
 intro pins s σ H R I h
 refine thn (hl pins s σ H _ I h) fun v s1 ⟨x,H1,I1,r1,q1⟩=>?_
 obtain ⟨a,e,⟨xs,hq⟩,q⟩:=q1
 subst e
 cases r1
 obtain ⟨its,rv,p,hz⟩:=I1.list hq
 refine wpAny_pyIter_list p.isList ?_
 refine ⟨s1.heap.objs.size,[s1.heap.objs.size],_,_,H1,rfl,I1.kept (t':=s1.toks) fun b o e=>Heap.get?_push_of_some _ e,turn_list a _,⟨_,Heap.get?_push_size _ rfl,rfl,rfl⟩,fun b hb=>?_,q⟩
 have e:b=s1.heap.objs.size:=by simpa using hb
 subst e
 exact I1.fpOk (Nat.le_refl _) (I1.hok.fresh (Nat.le_refl _))
theorem range_it {pins:List (Addr×Obj)}{σ:St}{H:Hp}{s:Shared}{R:It->Hp->Prop}{E:Value->Shared->Prop}{lo hi:Int}{t u v:Tok}{tk:Nat}(I:Inv X pins σ H s)(h1 : -(2 ^ 62)<=lo)(h2:lo<2 ^ 62)(h3 : -(2 ^ 62)<=hi)(h4:hi<2 ^ 62)
  (q:R (Itr lo (hi-lo).toNat) H):wpAny (model X.prog X.w) X.A (pyIter (.ref s.heap.objs.size)) (PIE X pins σ tg R) E { s with heap:=s.heap.push { cls:=.type "range",data:=.fields #[.int lo t,.int hi u,.int 1 v] },toks:=tk }:=by
 refine wpAny_pyIter_range (IsRange.new ..) (small_one h1 h2 h3 h4) ?_
 have I1:Inv X pins σ H { s with heap:=s.heap.push { cls:=.type "range",data:=.fields #[.int lo t,.int hi u,.int 1 v] },toks:=tk }:=I.kept fun b o e=>Heap.get?_push_of_some _ e
 refine ⟨(s.heap.push { cls:=.type "range",data:=.fields #[.int lo t,.int hi u,.int 1 v] }).objs.size,[(s.heap.push { cls:=.type "range",data:=.fields #[.int lo t,.int hi u,.int 1 v] }).objs.size],_,_,H,rfl,
  I1.kept (t':=tk) fun b o e=>Heap.get?_push_of_some _ e,turn_range _ lo (hi-lo).toNat,?_,fun b hb=>?_,q⟩
 ·have e1:lo+((0:Nat):Int)*1=lo:=by simp
  have e2:(((hi-lo).toNat:Nat):Int)-((0:Nat):Int)=Builtin.Range.rangeSize lo hi 1:=by rw [rangeSize_one];split <;> omega
  show IsRangeIter _ _ (lo+((0:Nat):Int)*1) ((((hi-lo).toNat:Nat):Int)-((0:Nat):Int)) 1
  rw [e1,e2]
  exact Heap.get?_push_size _ rfl
 ·have e:b=(s.heap.push { cls:=.type "range",data:=.fields #[.int lo t,.int hi u,.int 1 v] }).objs.size:=by simpa using hb
  subst e
  exact I1.fpOk (Nat.le_refl _) (I1.hok.fresh (Nat.le_refl _))
def iRng1 (ta:TA):TI:=fun σ H R=>ta σ H fun vs H1=>∃ j:Int,vs=[.int j]∧-(2 ^ 62)<=j∧j<2 ^ 62∧R (Itr 0 j.toNat) H1
def iRng2 (ta:TA):TI:=fun σ H R=>ta σ H fun vs H1=>∃ i j:Int,vs=[.int i,.int j]∧(-(2 ^ 62)<=i∧i<2 ^ 62∧-(2 ^ 62)<=j∧j<2 ^ 62)∧R (Itr i (j-i).toNat) H1
theorem pi_range1 {a:Expr}{ta:TA}{p pos:Pos}(hg:Gl X "range")(hm:X.mg "range" = none)(ha:PA X [a] ta)(hs:starEach [a] X.env=[(false,eval a X.env)]:=by rfl):PI X tg (.Call (.Name "range" p) [a] [] pos) (iRng1 ta):=by
 intro pins s σ H R I h
 refine Call_ (ld_blt I hg hm boot_range (PyProof.Rows.callWith_type1 (thn (ha pos pins s σ H _ I h) fun us s1 ⟨vs,H1,I1,r1,q1⟩=>?_) hs rfl))
 obtain ⟨j,e,q1,q2,q⟩:=q1
 subst e
 cases r1 with
 | cons r rr =>
  cases rr
  obtain ⟨t,rfl⟩:=r
  exact call_range_1 (range_it I1 (by omega) (by omega) q1 q2 (by simpa using q))
theorem pi_range2 {a b:Expr}{ta:TA}{p pos:Pos}(hg:Gl X "range")(hm:X.mg "range" = none)(ha:PA X [a,b] ta)(hs:starEach [a,b] X.env=[(false,eval a X.env),(false,eval b X.env)]:=by rfl)(hs2:starEach [b] X.env=[(false,eval b X.env)]:=by rfl) :
  PI X tg (.Call (.Name "range" p) [a,b] [] pos) (iRng2 ta):=by
 intro pins s σ H R I h
 refine Call_ (ld_blt I hg hm boot_range (PyProof.Rows.callWith_type1 (thn (ha pos pins s σ H _ I h) fun us s1 ⟨vs,H1,I1,r1,q1⟩=>?_) (by rw [hs,hs2]) (by rw [hs2];rfl)))
 obtain ⟨i,j,e,⟨q1,q2,q3,q4⟩,q⟩:=q1
 subst e
 cases r1 with
 | cons r rr =>
  cases rr with
  | cons r' rr =>
   cases rr
   obtain ⟨t,rfl⟩:=r
   obtain ⟨t',rfl⟩:=r'
   exact call_range_2 (range_it I1 q1 q2 q3 q4 q)
def tFor (wi:TI)(g:TG)(tb:TS):TS:=fun D σ H=>wi σ H fun J H1=>∃ W:Nat->Nat->St->Hp->Prop,(∃ m,W 0 m σ H1)∧∀ i m σ H,W i m σ H ->
 (J.stop i H∧D.nx σ H)∨(J.go i H∧∃ N:St->Hp->Prop,(∀ σ' H',N σ' H'->∃ m',m'<m∧W (i+1) m' σ' H')∧∀ x H',J.yld i H x H'->g x σ H' fun σ2 H2=>tb { D with nx:=N,ct:=N,bk:=D.nx } σ2 H2)
def pinsAt (fp:List Addr)(h:Heap):List (Addr×Obj):=fp.filterMap fun b=>(h.get? b).map fun o=>(b,o)
theorem mem_pinsAt {fp:List Addr}{h:Heap}{b:Addr}{o:Obj}(hb:b∈fp)(e:h.get? b=some o):(b,o)∈pinsAt fp h:=List.mem_filterMap.mpr ⟨b,hb,by rw [e];rfl⟩
theorem of_pinsAt {fp:List Addr}{h:Heap}{p:Addr×Obj}(hp:p∈pinsAt fp h):p.1∈fp∧h.get? p.1=some p.2:=by
 obtain ⟨b,hb,e⟩:=List.mem_filterMap.mp hp
 cases q:h.get? b with
 | none=>rw [q] at e;cases e
 | some o =>
  rw [q] at e
  have e':(b,o)=p:=Option.some.inj e
  subst e'
  exact ⟨hb,q⟩
theorem Inv.pinned {pins:List (Addr×Obj)}{σ:St}{H:Hp}{s:Shared}{fp:List Addr}(I:Inv X pins σ H s)(hf:∀ b∈fp,FpOk X pins H b)(ho:∀ b∈fp,∃ o,s.heap.get? b=some o∧∀ v,o.data≠.cell v):Inv X (pins++pinsAt fp s.heap) σ H s :=
 I.pins_of fun p hp=>(List.mem_append.mp hp).elim (fun z=>I.pin p (List.mem_append_right _ z)) fun z=>by
  obtain ⟨hb,e⟩:=of_pinsAt z
  obtain ⟨f0,f1,f2,_⟩:=hf p.1 hb
  obtain ⟨o,e',d⟩:=ho p.1 hb
  rw [e] at e';cases e'
  exact ⟨e,f0,f1,f2,d⟩
theorem Inv.unpinned {pins pl:List (Addr×Obj)}{σ:St}{H:Hp}{s:Shared}(I:Inv X (pins++pl) σ H s):Inv X pins σ H s:=I.pins_of fun p hp=>I.pin p (List.mem_append_right _ (List.mem_append_left _ hp))
theorem ps_for {iter:Expr}{body:List Stmt}{wi:TI}{g:TG}{tb:TS}{pos:Pos}(hp:PassesOwn (model X.prog X.w) X.A X.env X.xe)(hc:X.calm=true)(hi:PI X tg iter wi)(hg:PG X tg g)(hb:PSs X body tb)
  (hs:∀ x,foldedSetIterable iter X.env x=pure x:=by intro _;rfl):PS X (.For tg iter body [] pos) (tFor wi g tb):=by
 intro pins s σ H D I h
 refine wpAny_For (thn (hi pins s σ H _ I h) fun v s1 h1=>thn h1 fun itv s2 h2=>?_) hs
 obtain ⟨it,fp,tn,J,H2,e,I2,T,st2,f2,W,⟨m0,w0⟩,turn⟩:=h2
 subst e
 have stat:∀ {H':Hp},(∀ b∈fp,H' b=none)->∀ b∈fp,FpOk X pins H' b:=fun hn b hb=>⟨hn b hb,(f2 b hb).2⟩
 refine codeAny_forLoop_any (fun n s'=>∃ i σ' H',Inv X pins σ' H' s'∧tn i s'.heap∧(∀ b∈fp,H' b=none)∧W i n σ' H') ?_ m0 ⟨0,σ,H2,I2,st2,fun b hb=>(f2 b hb).1,w0⟩
 rintro n s3 ⟨i,σ3,H3,I3,st3,fr3,w3⟩
 rcases turn i n σ3 H3 w3 with ⟨stop,qn⟩ | ⟨go,N,hN,step⟩
 ·refine wpAny_passesOwn hp (thn (T.done X rfl rfl rfl hc i pins s3 σ3 H3 X.xe I3 (stat fr3) st3 stop) fun r s4 ⟨hr,I4⟩=>?_)
  subst hr
  exact wpAny_execs_nil ⟨σ3,H3,I4,qn⟩
 ·refine wpAny_passesOwn hp (thn (T.item X rfl rfl rfl hc i pins s3 σ3 H3 X.xe I3 (stat fr3) st3 go) fun r s4 ⟨u,hr,h4⟩=>?_)
  subst hr
  refine wpAny_passesOwn hp (thn h4 fun _ s5 ⟨x,H5,I5,r5,y5,st5,fr5⟩=>?_)
  have I5':=I5.pinned (stat fr5) (T.obj _ _ st5)
  refine wpAny_passesOwn hp (thn (hg _ s5 σ3 H5 x u _ I5' r5 (step x H5 y5)) fun _ s6 ⟨σ6,H6,I6,q6⟩=>?_)
  refine wpAny_passesOwn hp (thn (hb _ s6 σ6 H6 _ I6 q6) fun f s7 q7=>?_)
  have again:∀ {σ7:St} {H7:Hp},Inv X (pins++pinsAt fp s5.heap) σ7 H7 s7->N σ7 H7->∃ m,m<n∧∃ i σ' H',Inv X pins σ' H' s7∧tn i s7.heap∧(∀ b∈fp,H' b=none)∧W i m σ' H':=fun {σ7 H7} I7 n7=>by
   obtain ⟨m',hm,w7⟩:=hN σ7 H7 n7
   refine ⟨m',hm,i+1,σ7,H7,I7.unpinned,T.keep _ _ _ st5 fun b hb o e=>(I7.pin (b,o) (List.mem_append_right _ (List.mem_append_right _ (mem_pinsAt hb e)))).1,fun b hb=>?_,w7⟩
   obtain ⟨o,e,d⟩:=T.obj _ _ st5 b hb
   exact (I7.pin (b,o) (List.mem_append_right _ (List.mem_append_right _ (mem_pinsAt hb e)))).2.1
  cases f with
  | next=>obtain ⟨σ7,H7,I7,n7⟩:=q7;exact again I7 n7
  | cont=>obtain ⟨σ7,H7,I7,n7⟩:=q7;exact again I7 n7
  | brk=>obtain ⟨σ7,H7,I7,q7⟩:=q7;exact ⟨σ7,H7,I7.unpinned,q7⟩
  | ret v=>obtain ⟨x7,σ7,H7,I7,r7,q7⟩:=q7;exact ⟨x7,σ7,H7,I7.unpinned,r7,q7⟩
end
theorem for_list {K:PySem.W.Frag}{a:Addr}{xs:List V}{g:TG}{tb:TS}{D:Ends}{σ:St}{H:Hp}(Pv:Nat->St->Hp->Prop)(h0:Pv 0 σ H)(hl:∀ i σ H,i<=xs.length->Pv i σ H->SqL K H a xs)
  (hs:∀ i x σ H,xs[i]?=some x->Pv i σ H->g x σ H fun σ2 H2=>tb { D with nx:=Pv (i+1),ct:=Pv (i+1),bk:=D.nx } σ2 H2) (hd:∀ σ H,Pv xs.length σ H->D.nx σ H) :
  ∃ W:Nat->Nat->St->Hp->Prop,(∃ m,W 0 m σ H)∧∀ i m σ H,W i m σ H ->
   ((Itl K a).stop i H∧D.nx σ H)∨((Itl K a).go i H∧∃ N:St->Hp->Prop,(∀ σ' H',N σ' H'->∃ m',m'<m∧W (i+1) m' σ' H')∧∀ x H',(Itl K a).yld i H x H'->g x σ H' fun σ2 H2=>tb { D with nx:=N,ct:=N,bk:=D.nx } σ2 H2):=by
 refine ⟨fun i m σ H=>m=xs.length-i∧i<=xs.length∧Pv i σ H,⟨xs.length,by simp,Nat.zero_le _,h0⟩,?_⟩
 rintro i m σ H ⟨rfl,hi,p⟩
 have q:=hl i σ H hi p
 by_cases hlt:i<xs.length
 ·refine .inr ⟨⟨xs,xs[i],q,by simp [hlt]⟩,Pv (i+1),fun σ' H' p'=>⟨xs.length-(i+1),by omega,rfl,hlt,p'⟩,fun x H' y=>?_⟩
  obtain ⟨e,y⟩:=y
  subst e
  exact hs i x σ _ (y xs q) p
 ·have e:i=xs.length:=by omega
  subst e
  exact .inl ⟨⟨xs,q,Nat.le_refl _⟩,hd σ H p⟩
theorem for_range {lo:Int}{n:Nat}{g:TG}{tb:TS}{D:Ends}{σ:St}{H:Hp}(Pv:Nat->St->Hp->Prop)(h0:Pv 0 σ H)
  (hs:∀ i σ H,i<n->Pv i σ H->g (.int (lo+i)) σ H fun σ2 H2=>tb { D with nx:=Pv (i+1),ct:=Pv (i+1),bk:=D.nx } σ2 H2) (hd:∀ σ H,Pv n σ H->D.nx σ H) :
  ∃ W:Nat->Nat->St->Hp->Prop,(∃ m,W 0 m σ H)∧∀ i m σ H,W i m σ H ->
   ((Itr lo n).stop i H∧D.nx σ H)∨((Itr lo n).go i H∧∃ N:St->Hp->Prop,(∀ σ' H',N σ' H'->∃ m',m'<m∧W (i+1) m' σ' H')∧∀ x H',(Itr lo n).yld i H x H'->g x σ H' fun σ2 H2=>tb { D with nx:=N,ct:=N,bk:=D.nx } σ2 H2):=by
 refine ⟨fun i m σ H=>m=n-i∧i<=n∧Pv i σ H,⟨n,by simp,Nat.zero_le _,h0⟩,?_⟩
 rintro i m σ H ⟨rfl,hi,p⟩
 by_cases hlt:i<n
 ·refine .inr ⟨hlt,Pv (i+1),fun σ' H' p'=>⟨n-(i+1),by omega,rfl,hlt,p'⟩,fun x H' y=>?_⟩
  obtain ⟨e,y⟩:=y
  subst e y
  exact hs i σ _ hlt p
 ·have e:i=n:=by omega
  subst e
  exact .inl ⟨Nat.le_refl _,hd σ H p⟩
end L2
namespace L2
open PySem PySem.Spec PyProof.Rows
abbrev R2:=V->V->Hp->VK->Prop
def OpR (X:Cx)(f:Value->Value->Sem Value)(r:R2):Prop :=
 ∀ (pins:List (Addr×Obj)) (s:Shared) (σ:St) (H:Hp) (x y:V) (v u:Value) (Q:VK),Inv X pins σ H s->RelV x v->RelV y u->r x y H Q ->
  wpAny (model X.prog X.w) X.A (f v u) (EP X pins σ Q) X.xe s
def UnR (X:Cx)(f:Value->Sem Value)(r:V->Hp->VK->Prop):Prop :=
 ∀ (pins:List (Addr×Obj)) (s:Shared) (σ:St) (H:Hp) (x:V) (v:Value) (Q:VK),Inv X pins σ H s->RelV x v->r x H Q ->
  wpAny (model X.prog X.w) X.A (f v) (EP X pins σ Q) X.xe s
def CallR (X:Cx)(f:Value)(r:List V->Hp->VK->Prop):Prop :=
 ∀ (pins:List (Addr×Obj)) (s:Shared) (σ:St) (H:Hp) (xs:List V) (us:List Value) (Q:VK),Inv X pins σ H s->Vals xs us->r xs H Q ->
  wpAny (model X.prog X.w) X.A (call f us) (EP X pins σ Q) X.xe s
def tOp (r:R2)(ta tb:TE):TE:=fun σ H Q=>ta σ H fun x H1=>tb σ H1 fun y H2=>r x y H2 Q
def tUn (r:V->Hp->VK->Prop)(ta:TE):TE:=fun σ H Q=>ta σ H fun x H1=>r x H1 Q
def rI (C:Int->Int->Prop)(g:Int->Int->V):R2:=fun x y H Q=>∃ i j,x = .int i∧y = .int j∧C i j∧Q (g i j) H
def rI0 (g:Int->Int->V):R2:=fun x y H Q=>∃ i j,x = .int i∧y = .int j∧Q (g i j) H
def rU (g:Int->V):V->Hp->VK->Prop:=fun x H Q=>∃ i,x = .int i∧Q (g i) H
section
variable {X:Cx}{a b c:Expr}{ta tb tc:TE}{pos:Pos}
theorem binT (ha:PE X a ta)(hb:PE X b tb){pins:List (Addr×Obj)}{s:Shared}{σ:St}{H:Hp}{R:V->V->Hp->Prop}(I:Inv X pins σ H s)
  (h:ta σ H fun x H1=>tb σ H1 fun y H2=>R x y H2) {Q:Value->Shared->Prop} {f:Value->Value->Sem Value}
  (hf:∀ v u s2 x y H2,Inv X pins σ H2 s2->RelV x v->RelV y u->R x y H2->wpAny (model X.prog X.w) X.A (f v u) Q X.xe s2) :
  wpAny (model X.prog X.w) X.A (eval a X.env) (fun v s₁=>wpAny (model X.prog X.w) X.A (eval b X.env) (fun u s₂=>wpAny (model X.prog X.w) X.A (f v u) Q X.xe s₂) X.xe s₁) X.xe s:=by
 refine thn (ha pins s σ H _ I h) fun v s1 ⟨x,H1,I1,r1,q1⟩=>?_
 refine thn (hb pins s1 σ H1 _ I1 q1) fun u s2 ⟨y,H2,I2,r2,q2⟩=>?_
 exact hf v u s2 x y H2 I2 r1 r2 q2
theorem pe_op {op:Operator}{r:R2}(ho:OpR X (binaryOp op) r)(ha:PE X a ta)(hb:PE X b tb):PE X (.BinOp a op b pos) (tOp r ta tb):=by
 intro pins s σ H Q I h
 exact wpAny_BinOp (binT ha hb I h fun v u s2 x y H2 I2 rx ry q=>ho pins s2 σ H2 x y v u Q I2 rx ry q)
theorem pe_un {op:UnaryOp}{r:V->Hp->VK->Prop}(ho:UnR X (unaryOp op) r)(ha:PE X a ta):PE X (.UnaryOp op a pos) (tUn r ta):=by
 intro pins s σ H Q I h
 exact UnaryOp_ (thn (ha pins s σ H _ I h) fun v s1 ⟨x,H1,I1,r1,q1⟩=>ho pins s1 σ H1 x v Q I1 r1 q1)
theorem opI {f:Value->Value->Sem Value}{C:Int->Int->Prop}{g:Int->Int->Int}
  (rule:∀ (i j:Int) (t u:Tok) (s:Shared) (Q:Value->Shared->Prop) (E:Value->Shared->Prop),C i j->Q (.int (g i j) s.toks) { s with toks:=s.toks+1 }->wpAny (model X.prog X.w) X.A (f (.int i t) (.int j u)) Q E s) :
  OpR X f (rI C fun i j=>.int (g i j)):=by
 intro pins s σ H x y v u Q I rx ry h
 obtain ⟨i,j,rfl,rfl,hc,q⟩:=h
 obtain ⟨t,rfl⟩:=rx
 obtain ⟨t',rfl⟩:=ry
 exact rule i j t t' s _ _ hc ⟨.int (g i j),H,I.tok _,⟨_,rfl⟩,q⟩
theorem opI0 {f:Value->Value->Sem Value}{g:Int->Int->Int}
  (rule:∀ (i j:Int) (t u:Tok) (s:Shared) (Q:Value->Shared->Prop) (E:Value->Shared->Prop),Q (.int (g i j) s.toks) { s with toks:=s.toks+1 }->wpAny (model X.prog X.w) X.A (f (.int i t) (.int j u)) Q E s) :
  OpR X f (rI0 fun i j=>.int (g i j)):=by
 intro pins s σ H x y v u Q I rx ry h
 obtain ⟨i,j,rfl,rfl,q⟩:=h
 obtain ⟨t,rfl⟩:=rx
 obtain ⟨t',rfl⟩:=ry
 exact rule i j t t' s _ _ ⟨.int (g i j),H,I.tok _,⟨_,rfl⟩,q⟩
theorem opB0 {f:Value->Value->Sem Value}{g:Int->Int->Bool}
  (rule:∀ (i j:Int) (t u:Tok) (s:Shared) (Q:Value->Shared->Prop) (E:Value->Shared->Prop),Q (.bool (g i j)) s->wpAny (model X.prog X.w) X.A (f (.int i t) (.int j u)) Q E s) :
  OpR X f (rI0 fun i j=>.bl (g i j)):=by
 intro pins s σ H x y v u Q I rx ry h
 obtain ⟨i,j,rfl,rfl,q⟩:=h
 obtain ⟨t,rfl⟩:=rx
 obtain ⟨t',rfl⟩:=ry
 exact rule i j t t' s _ _ ⟨.bl (g i j),H,I,rfl,q⟩
def CDiv (i j:Int):Prop:=0<j∧j<1073741824
def CMul (i j:Int):Prop:=(-(2 ^ 64)<i∧i<2 ^ 64)∨(-(2 ^ 64)<j∧j<2 ^ 64)
theorem CMul.ok {i j:Int}(h:CMul i j):IntMulOk i j:=by
 rcases h with ⟨h1,h2⟩ | ⟨h1,h2⟩
 ·exact .of_left (intBits_le_64 h1 h2)
 ·exact .of_right (intBits_le_64 h1 h2)
theorem op_add:OpR X (binaryOp .Add) (rI0 fun i j=>.int (i+j)):=opI0 fun _ _ _ _ _ _ _ q=>add_int q
theorem op_sub:OpR X (binaryOp .Sub) (rI0 fun i j=>.int (i-j)):=opI0 fun _ _ _ _ _ _ _ q=>sub_int q
theorem op_mul:OpR X (binaryOp .Mult) (rI CMul fun i j=>.int (i*j)):=opI fun _ _ _ _ _ _ _ hc q=>mul_int q hc.ok
theorem op_fdiv:OpR X (binaryOp .FloorDiv) (rI CDiv fun i j=>.int (i/j)):=opI fun i j _ _ _ _ _ hc q=>by
 have h1:(0:Int)<j:=hc.1
 have h2:j<1073741824:=hc.2
 exact floordiv_int (by omega) (by rw [Int.fdiv_eq_ediv_of_nonneg i (by omega)];exact q) (.inl (PyProof.noPylong_small (by omega)))
theorem op_mod:OpR X (binaryOp .Mod) (rI (fun _ j=>0<j) fun i j=>.int (i % j)):=opI fun i j _ _ _ _ _ hc q=>by
 have h1:(0:Int)<j:=hc
 exact mod_int' (by omega) (by rw [Int.fmod_eq_emod_of_nonneg i (by omega)];exact q)
theorem unI {f:Value->Sem Value}{g:Int->Int}
  (rule:∀ (i:Int) (t:Tok) (s:Shared) (Q:Value->Shared->Prop) (E:Value->Shared->Prop),Q (.int (g i) s.toks) { s with toks:=s.toks+1 }->wpAny (model X.prog X.w) X.A (f (.int i t)) Q E s) :
  UnR X f (rU fun i=>.int (g i)):=by
 intro pins s σ H x v Q I rx h
 obtain ⟨i,rfl,q⟩:=h
 obtain ⟨t,rfl⟩:=rx
 exact rule i t s _ _ ⟨.int (g i),H,I.tok _,⟨_,rfl⟩,q⟩
theorem un_neg:UnR X (unaryOp .USub) (rU fun i=>.int (-i)):=unI fun _ _ _ _ _ q=>neg_int q
end
def scal:V->V->Bool
 | .non,.non=>true | .non,.int _=>true | .int _,.non=>true | .non,.bl _=>true | .bl _,.non=>true | .non,.str _=>true | .str _,.non=>true
 | .int _,.int _=>true | .bl _,.bl _=>true | .str _,.str _=>true | .byt _,.byt _=>true
 | .int _,.str _=>true | .str _,.int _=>true | .bl _,.str _=>true | .str _,.bl _=>true
 | _,_=>false
def rEq:R2:=fun x y H Q=>scal x y=true∧Q (.bl (decide (x=y))) H
def rNe:R2:=fun x y H Q=>scal x y=true∧Q (.bl (!decide (x=y))) H
theorem dec_int {i j:Int}:decide (V.int i=V.int j)=(i==j):=by
 rw [Bool.eq_iff_iff]
 simp
theorem dec_bl {i j:Bool}:decide (V.bl i=V.bl j)=(i==j):=by
 rw [Bool.eq_iff_iff]
 simp
theorem dec_str {i j:Str}:decide (V.str i=V.str j)=(i==j):=by
 rw [Bool.eq_iff_iff]
 simp
theorem dec_byt {i j:Array UInt8}:decide (V.byt i=V.byt j)=(i.toList==j.toList):=by
 rw [Bool.eq_iff_iff]
 cases i
 cases j
 simp
section
variable {X:Cx}{a b c:Expr}{ta tb tc:TE}{pos:Pos}
theorem fin_bl {pins:List (Addr×Obj)}{σ:St}{H:Hp}{s:Shared}{Q:VK}{k k':Bool}(I:Inv X pins σ H s)(q:Q (.bl k) H)(e:k=k'):EP X pins σ Q (.bool k') s:=by
 subst e
 exact ⟨.bl k,H,I,rfl,q⟩
theorem op_eq:OpR X (compareOp .Eq) rEq:=by
 intro pins s σ H x y v u Q I rx ry h
 obtain ⟨hs,q⟩:=h
 cases x with
 | non =>
  cases rx
  cases y with
  | non=>cases ry;exact PySem.EqNone.eq_none_none (fin_bl I q (by simp))
  | bl j=>cases ry;exact PySem.EqNone.eq_none_bool (fin_bl I q (by simp))
  | int j=>obtain ⟨t',rfl⟩:=ry;exact PySem.EqNone.eq_none_int (fin_bl I q (by simp))
  | str j=>obtain ⟨t',rfl⟩:=ry;exact PySem.EqNone.eq_none_str (fin_bl I q (by simp))
  | _=>exact absurd (show false=true from hs) Bool.false_ne_true
 | bl i =>
  cases rx
  cases y with
  | non=>cases ry;exact PySem.EqNone.eq_bool_none (fin_bl I q (by simp))
  | bl j=>cases ry;exact eq_bool (fin_bl I q dec_bl)
  | str j=>obtain ⟨t',rfl⟩:=ry;exact PySem.EqMixed.eq_bool_str (fin_bl I q (by simp))
  | _=>exact absurd (show false=true from hs) Bool.false_ne_true
 | int i =>
  obtain ⟨t,rfl⟩:=rx
  cases y with
  | non=>cases ry;exact PySem.EqNone.eq_int_none (fin_bl I q (by simp))
  | int j=>obtain ⟨t',rfl⟩:=ry;exact eq_int (fin_bl I q dec_int)
  | str j=>obtain ⟨t',rfl⟩:=ry;exact PySem.EqMixed.eq_int_str (fin_bl I q (by simp))
  | _=>exact absurd (show false=true from hs) Bool.false_ne_true
 | str i =>
  obtain ⟨t,rfl⟩:=rx
  cases y with
  | non=>cases ry;exact PySem.EqNone.eq_str_none (fin_bl I q (by simp))
  | bl j=>cases ry;exact PySem.EqMixed.eq_str_bool (fin_bl I q (by simp))
  | int j=>obtain ⟨t',rfl⟩:=ry;exact PySem.EqMixed.eq_str_int (fin_bl I q (by simp))
  | str j=>obtain ⟨t',rfl⟩:=ry;exact eq_str (fin_bl I q dec_str)
  | _=>exact absurd (show false=true from hs) Bool.false_ne_true
 | byt i =>
  obtain ⟨t,rfl⟩:=rx
  cases y with
  | byt j=>obtain ⟨t',rfl⟩:=ry;exact PySem.W.eq_bytes (fin_bl I q dec_byt)
  | _=>exact absurd (show false=true from hs) Bool.false_ne_true
 | _=>cases y <;> exact absurd (show false=true from hs) Bool.false_ne_true
theorem op_ne:OpR X (compareOp .NotEq) rNe:=by
 intro pins s σ H x y v u Q I rx ry h
 obtain ⟨hs,q⟩:=h
 cases x with
 | non =>
  cases rx
  cases y with
  | non=>cases ry;exact PySem.EqNone.ne_none_none (fin_bl I q (by simp))
  | bl j=>cases ry;exact PySem.EqNone.ne_none_bool (fin_bl I q (by simp))
  | int j=>obtain ⟨t',rfl⟩:=ry;exact PySem.EqNone.ne_none_int (fin_bl I q (by simp))
  | str j=>obtain ⟨t',rfl⟩:=ry;exact PySem.EqNone.ne_none_str (fin_bl I q (by simp))
  | _=>exact absurd (show false=true from hs) Bool.false_ne_true
 | bl i =>
  cases rx
  cases y with
  | non=>cases ry;exact PySem.EqNone.ne_bool_none (fin_bl I q (by simp))
  | bl j=>cases ry;exact ne_bool (fin_bl I q (congrArg not dec_bl))
  | str j=>obtain ⟨t',rfl⟩:=ry;exact PySem.EqMixed.ne_bool_str (fin_bl I q (by simp))
  | _=>exact absurd (show false=true from hs) Bool.false_ne_true
 | int i =>
  obtain ⟨t,rfl⟩:=rx
  cases y with
  | non=>cases ry;exact PySem.EqNone.ne_int_none (fin_bl I q (by simp))
  | int j=>obtain ⟨t',rfl⟩:=ry;exact ne_int (fin_bl I q (congrArg not dec_int))
  | str j=>obtain ⟨t',rfl⟩:=ry;exact PySem.EqMixed.ne_int_str (fin_bl I q (by simp))
  | _=>exact absurd (show false=true from hs) Bool.false_ne_true
 | str i =>
  obtain ⟨t,rfl⟩:=rx
  cases y with
  | non=>cases ry;exact PySem.EqNone.ne_str_none (fin_bl I q (by simp))
  | bl j=>cases ry;exact PySem.EqMixed.ne_str_bool (fin_bl I q (by simp))
  | int j=>obtain ⟨t',rfl⟩:=ry;exact PySem.EqMixed.ne_str_int (fin_bl I q (by simp))
  | str j=>obtain ⟨t',rfl⟩:=ry;exact ne_str (fin_bl I q (congrArg not dec_str))
  | _=>exact absurd (show false=true from hs) Bool.false_ne_true
 | byt i =>
  obtain ⟨t,rfl⟩:=rx
  cases y with
  | byt j=>obtain ⟨t',rfl⟩:=ry;exact PySem.W.ne_bytes (fin_bl I q (congrArg not dec_byt))
  | _=>exact absurd (show false=true from hs) Bool.false_ne_true
 | _=>cases y <;> exact absurd (show false=true from hs) Bool.false_ne_true
theorem op_lt:OpR X (compareOp .Lt) (rI0 fun i j=>.bl (decide (i<j))):=opB0 fun _ _ _ _ _ _ _ q=>lt_int q
theorem op_le:OpR X (compareOp .LtE) (rI0 fun i j=>.bl (decide (i<=j))):=opB0 fun _ _ _ _ _ _ _ q=>le_int q
theorem op_gt:OpR X (compareOp .Gt) (rI0 fun i j=>.bl (decide (j<i))):=opB0 fun _ _ _ _ _ _ _ q=>gt_int q
theorem op_ge:OpR X (compareOp .GtE) (rI0 fun i j=>.bl (decide (j<=i))):=opB0 fun _ _ _ _ _ _ _ q=>ge_int q
theorem op_lt_str:OpR X (compareOp .Lt) (fun x y H Q=>∃ i j,x = .str i∧y = .str j∧Q (.bl (decide (i.cps.toList<j.cps.toList))) H):=by
 intro pins s σ H x y v u Q I rx ry h
 obtain ⟨i,j,rfl,rfl,q⟩:=h
 obtain ⟨t,rfl⟩:=rx
 obtain ⟨t',rfl⟩:=ry
 exact lt_str (fin_bl I q rfl)
theorem op_notin_str:OpR X (compareOp .NotIn) (fun x y H Q=>∃ i j,x = .str i∧y = .str j∧Q (.bl (!(!(Builtin.Str.occurrences j i 0 j.length 1).isEmpty))) H):=by
 intro pins s σ H x y v u Q I rx ry h
 obtain ⟨i,j,rfl,rfl,q⟩:=h
 obtain ⟨t,rfl⟩:=rx
 obtain ⟨t',rfl⟩:=ry
 exact notIn_str (fin_bl I q rfl)
theorem nomark (b:Expr){op:CmpOp}(h:op≠.In:=by decide)(h2:op≠.NotIn:=by decide):behindInMarks op b=false:=by
 have e1:(op==CmpOp.In)=false:=by cases op <;> first | rfl | exact absurd rfl h
 have e2:(op==CmpOp.NotIn)=false:=by cases op <;> first | rfl | exact absurd rfl h2
 cases b <;> simp [behindInMarks,e1,e2]
theorem pe_cmpR {op:CmpOp}{r:R2}(ho:OpR X (compareOp op) r)(ha:PE X a ta)(hb:PE X b tb)(hm:behindInMarks op b=false):PE X (.Compare a [op] [b] pos) (tOp r ta tb):=by
 intro pins s σ H Q I h
 exact wpAny_Compare1 (binT ha hb I h fun v u s2 x y H2 I2 rx ry q=>ho pins s2 σ H2 x y v u Q I2 rx ry q) hm
def tTest (t:TE):TT:=fun σ H Q=>t σ H fun x H'=>∃ k,x = .bl k∧Q k H'
theorem pt_cmpR {op:CmpOp}{r:R2}(ho:OpR X (compareOp op) r)(ha:PE X a ta)(hb:PE X b tb)(hm:behindInMarks op b=false):PT X (.Compare a [op] [b] pos) (tTest (tOp r ta tb)):=by
 intro pins s σ H Q I h
 refine wpAny_isTrue_Compare1 (thn (ha pins s σ H _ I h) fun v s1 ⟨x,H1,I1,r1,q1⟩=>thn (hb pins s1 σ H1 _ I1 q1) fun u s2 ⟨y,H2,I2,r2,q2⟩ =>
  thn (ho pins s2 σ H2 x y v u _ I2 r1 r2 q2) fun c s3 ⟨z,H3,I3,r3,k,e,q3⟩=>?_) hm
 subst e
 cases r3
 exact wpAny_truthy_bool ⟨H3,I3,q3⟩
theorem line63:(sizeLine:Nat)<2 ^ 63:=by rw [sizeLine_eq];decide
theorem op_add_str:OpR X (binaryOp .Add) (fun x y H Q=>∃ i j,x = .str i∧y = .str j∧i.length+j.length<=sizeLine∧Q (.str (i++j)) H):=by
 intro pins s σ H x y v u Q I rx ry h
 obtain ⟨i,j,rfl,rfl,hz,q⟩:=h
 obtain ⟨t,rfl⟩:=rx
 obtain ⟨t',rfl⟩:=ry
 exact add_str (fun t' tk=>⟨.str (i++j),H,I.tok _,⟨_,rfl⟩,q⟩) hz
theorem vals1 {x:V}{us:List Value}(r:Vals [x] us):∃ u,us=[u]∧RelV x u:=by
 cases r with
 | cons r1 r2=>cases r2;exact ⟨_,rfl,r1⟩
theorem vals2 {x y:V}{us:List Value}(r:Vals [x,y] us):∃ u w',us=[u,w']∧RelV x u∧RelV y w':=by
 cases r with
 | cons r1 r2 =>
  cases r2 with
  | cons r3 r4=>cases r4;exact ⟨_,_,rfl,r1,r3⟩
theorem call_abs:CallR X (.builtin "abs") (fun xs H Q=>∃ i,xs=[.int i]∧Q (.int (if i<0 then -i else i)) H):=by
 intro pins s σ H xs us Q I r h
 obtain ⟨i,rfl,q⟩:=h
 obtain ⟨u,rfl,t,rfl⟩:=vals1 r
 exact call_abs_int fun u tk=>⟨.int (if i<0 then -i else i),H,I.tok _,⟨_,rfl⟩,q⟩
end
end L2
namespace L2
open PySem PySem.Spec PyProof.Rows
set_option genInjectivity false in
structure ObjM (h:Heap)(x dx C:Addr)(mA:Str->Option Value):Prop where
 obj:h.get? x=some (PySem.W.instObj C dx)
 ns:h.Ns1 dx mA
 ne:dx≠x
theorem lookIn_ns {h:Heap}{dx:Addr}{mA:Str->Option Value}(n:h.Ns1 dx mA):∃ od,h.get? dx=some od∧∀ name,PySem.W.lookIn name od=some (mA name):=by
 obtain ⟨o,es,ep,ho,hd,hk,_,hm⟩:=n
 refine ⟨o,ho,fun name=>?_⟩
 have e:=hm name
 unfold nsFind findBy at e
 rw [<- Array.find?_toList] at e
 unfold PySem.W.lookIn
 rw [hd]
 dsimp only
 split
 ·rename_i y q
  rw [q] at e
  exact congrArg some e
 ·rename_i q
  rw [q] at e
  have a:es.toList.any (·.refKey)=false:=by
   rw [List.any_eq_false]
   intro y hy
   obtain ⟨z,t,hkey⟩:=hk y (Array.mem_toList_iff.mp hy)
   simp [DictEntry.refKey,hkey]
  have a':¬ es.toList.any (·.refKey)=true:=by rw [a];exact Bool.false_ne_true
  rw [if_neg a']
  exact congrArg some e
theorem ObjM.look {h:Heap}{x dx C:Addr}{mA:Str->Option Value}(I:ObjM h x dx C mA):∃ od,PySem.W.InstAt h x (PySem.W.instObj C dx) C (some od)∧∀ name,PySem.W.lookIn name od=some (mA name) :=
 let ⟨od,ho,hl⟩:=lookIn_ns I.ns
 ⟨od,⟨I.obj,rfl,rfl,ho⟩,hl⟩
section
variable {prog:Program}{w:World}{A:Around}{E:Value->Shared->Prop}{s:Shared}{K:PySem.W.Frag}{x dx C f:Addr}{mA:Str->Option Value}{name:Str}{v:Value}
theorem get_map {expr:Bool}{Q:Value->Shared->Prop}(X:K.In s.heap)(I:ObjM s.heap x dx C mA)(hg:PySem.W.plainGet K C name=true)(hh:PySem.W.hasDictIn K C=true)
  (ha:PySem.W.findIn K (.ref C) name=some none) (hv:mA name=some v) (hv':PySem.W.handedIn v=true) (h:Q v { s with toks:=s.toks+1 }) :
  wpAny (model prog w) A (getAttr (.ref x) name expr) Q E s:=by
 obtain ⟨od,J,hl⟩:=I.look
 exact PySem.W.get_value X J (PySem.W.plainGet_of hg).1 (PySem.W.findObj_own hh ha rfl (by rw [hl,hv])) hv' h
theorem set_map {ns:List Str}{Q:Unit->Shared->Prop}(X:K.In s.heap)(I:ObjM s.heap x dx C mA)
  (hs:PySem.W.findIn K (.ref C) "__setattr__" = some (some (.builtin "object.__setattr__"))) (hp:PySem.W.plainOver K C=true) (ht:PySem.W.takerIn K C name=some none) (hh:PySem.W.hasDictIn K C=true)
  (hw:PySem.Within mA ns) (hsz:ns.length<=sizeLine)
  (h:∀ h',ObjM h' x dx C (fun y=>if y=name then some v else mA y)->Heap.SameBut dx s.heap h'->Q () { s with heap:=h',toks:=s.toks+2 }) :
  wpAny (model prog w) A (setAttr (.ref x) name v) Q E s:=by
 obtain ⟨od,J,hl⟩:=I.look
 refine PySem.W.set_plain X J hs (PySem.W.osa_open (s:={ s with toks:=s.toks+1 }) (r:=none) X J hp ht fun b=>?_)
 obtain ⟨cd,hc,hd'⟩:=PySem.W.any_some hh
 have hx:s.heap.get? x=some ⟨.ref C,some dx,.plain,#[]⟩:=I.obj
 refine wpAny_bind (wpAny_pure (wpAny_bind (wpAny_bind (wpAny_loadPart hx (wpAny_bind (PySem.W.Looks.here (s:={ s with toks:=s.toks+1 }) (PySem.W.looks_clsIn X hc) ?_))))))
 rw [hd']
 refine wpAny_pure (a:=some dx) (wpAny_bind (wpAny_pure (wpAny_bind ?_)))
 refine wpAny_nsSet1 (s:={ s with toks:=s.toks+1 }) I.ns fun h' hn2 hs2=>?_
 obtain ⟨oD,esD,epD,hoD,hdD,hcD⟩:=hn2.count (PySem.Within.cons name v hw)
 refine wpAny_bind (wpAny_lookBehind hoD (by rw [hdD];exact pastItsLine_dict (Nat.le_trans hcD (by rw [List.length_cons];omega))) ?_)
 exact wpAny_pure (h _ ⟨(hs2.2 _ (Ne.symm I.ne)).trans I.obj,hn2,I.ne⟩ hs2)
theorem make_map {R:Result->Shared->Prop}{vs:List Value}{kw:List (Str×Value)}(X:K.In s.heap)(hm:PySem.W.makesIn K C=true)
  (hi:PySem.W.findIn K (.ref C) "__init__" = some (some (.ref f))) (hf:PySem.W.typeIn K (.ref f)=some (.type "function"))
  (h:codeAny (model prog w) (A.under (.builtin "type.__call__" ⟨.ref C::vs,kw⟩)) (.call (.ref f) ⟨.ref (s.heap.objs.size+1)::vs,kw⟩) (PySem.W.InitBack (s.heap.objs.size+1) R)
   { s with heap:=(s.heap.push PySem.W.emptyDict).push (PySem.W.instObj C s.heap.objs.size) }) :
  codeAny (model prog w) A (.call (.ref C) ⟨vs,kw⟩) R s:=by
 obtain ⟨hh,g,d,t,os⟩:=s
 exact PySem.W.make_core (PySem.W.makes_of X hm) (PySem.W.looks_findIn X hi) (fun self=>PySem.W.bind_fn X self hf) (.inl rfl) h
end
def putF (f:Str)(v:V):List (Str×V)->List (Str×V)
 | []=>[(f,v)]
 | (g,x)::r=>if g=f then (g,v)::r else (g,x)::putF f v r
theorem lookup_putF (f g:Str)(v:V):∀ fs:List (Str×V),(putF f v fs).lookup g=if g=f then some v else fs.lookup g
 | []=>by
  show List.lookup g [(f,v)]=_
  by_cases h:g=f
  ·have hb:(g==f)=true:=beq_iff_eq.mpr h
   simp only [List.lookup,hb,if_pos h]
  ·have hb:(g==f)=false:=beq_eq_false_iff_ne.mpr h
   simp only [List.lookup,hb,if_neg h]
 | (k,x)::r=>by
  have ih:=lookup_putF f g v r
  rw [show putF f v ((k,x)::r)=(if k=f then (k,v)::r else (k,x)::putF f v r) from rfl]
  by_cases hk:k=f
  ·rw [if_pos hk]
   by_cases h:g=k
   ·have hb:(g==k)=true:=beq_iff_eq.mpr h
    simp only [List.lookup,hb,if_pos (h.trans hk)]
   ·have hb:(g==k)=false:=beq_eq_false_iff_ne.mpr h
    simp only [List.lookup,hb,if_neg (fun e:g=f=>h (e.trans hk.symm))]
  ·rw [if_neg hk]
   by_cases h:g=k
   ·have hb:(g==k)=true:=beq_iff_eq.mpr h
    simp only [List.lookup,hb,if_neg (fun e:g=f=>hk (h.symm.trans e))]
   ·have hb:(g==k)=false:=beq_eq_false_iff_ne.mpr h
    simp only [List.lookup,hb]
    exact ih
theorem keys_putF (f:Str)(v:V):∀ fs:List (Str×V),f∈(putF f v fs).map (·.1)∧∀ g,g∈fs.map (·.1)->g∈(putF f v fs).map (·.1)
 | []=>⟨by simp [putF],fun g h=>by simp at h⟩
 | (k,x)::r=>by
  obtain ⟨i1,i2⟩:=keys_putF f v r
  rw [show putF f v ((k,x)::r)=(if k=f then (k,v)::r else (k,x)::putF f v r) from rfl]
  by_cases hk:k=f
  ·rw [if_pos hk]
   subst hk
   exact ⟨by simp,fun g h=>by simpa using h⟩
  ·rw [if_neg hk]
   refine ⟨?_,fun g h=>?_⟩
   ·rw [List.map_cons]
    exact List.mem_cons_of_mem _ i1
   ·rw [List.map_cons] at h ⊢
    rcases List.mem_cons.mp h with e | e
    ·exact List.mem_cons.mpr (.inl e)
    ·exact List.mem_cons_of_mem _ (i2 g e)
theorem length_putF (f:Str)(v:V):∀ fs:List (Str×V),(putF f v fs).length<=fs.length+1
 | []=>by simp [putF]
 | (k,x)::r=>by
  have ih:=length_putF f v r
  rw [show putF f v ((k,x)::r)=(if k=f then (k,v)::r else (k,x)::putF f v r) from rfl]
  by_cases hk:k=f
  ·rw [if_pos hk,List.length_cons,List.length_cons];omega
  ·rw [if_neg hk,List.length_cons,List.length_cons];omega
theorem RelO.some_of {v:V}{o:Option Value}(r:RelO (some v) o):∃ u,o=some u∧RelV v u:=by
 cases o with
 | none=>exact (show False from r).elim
 | some u=>exact ⟨u,rfl,r⟩
theorem RelO.none_of {o:Option Value}(r:RelO none o):o=none:=by
 cases o with
 | none=>rfl
 | some u=>exact (show False from r).elim
theorem handed_of {v:V}{u:Value}(r:RelV v u):PySem.W.handedIn u=true:=by
 cases v with
 | non=>cases (show u=Value.none from r);rfl
 | bl b=>cases (show u=Value.bool b from r);rfl
 | int i=>obtain ⟨t,e⟩:=(show ∃ t,u=Value.int i t from r);cases e;rfl
 | str x=>obtain ⟨t,e⟩:=(show ∃ t,u=Value.str x t from r);cases e;rfl
 | byt b=>obtain ⟨t,e⟩:=(show ∃ t,u=Value.bytes b t from r);cases e;rfl
 | flt b=>obtain ⟨t,e⟩:=(show ∃ t,u=Value.float b t from r);cases e;rfl
 | ref a=>cases (show u=Value.ref a from r);rfl
 | ty n=>cases (show u=Value.type n from r);rfl
section
variable {P:Program}{w:World}{H H':Hp}{h h':Heap}{a C dx:Addr}{fs fs':List (Str×V)}
theorem ins_get (hok:HOk P w H h)(e:H a=some (.ins C dx fs)):∃ mA,ObjM h a dx C mA∧(∀ f,RelO (fs.lookup f) (mA f))∧PySem.Within mA (fs.map (·.1))∧fs.length<=1000∧H dx=some (.own a):=by
 obtain ⟨d,z,ne,ob,mA,n,r,q⟩:=(show ObjOk P w H h a (.ins C dx fs) from hok a _ e)
 exact ⟨mA,⟨ob,n,ne⟩,r,q,z,d⟩
end
set_option genInjectivity false in
structure Cls (K:PySem.W.Frag)(C:Addr):Prop where
 pg:PySem.W.plainGet K C Str.empty=true
 hd:PySem.W.hasDictIn K C=true
 po:PySem.W.plainOver K C=true
 sa:PySem.W.findIn K (.ref C) "__setattr__" = some (some (.builtin "object.__setattr__"))
theorem Cls.get {K:PySem.W.Frag}{C:Addr}(c:Cls K C)(f:Str):PySem.W.plainGet K C f=true:=c.pg
def NoAttr (K:PySem.W.Frag)(C:Addr)(f:Str):Prop:=PySem.W.findIn K (.ref C) f=some none
theorem NoAttr.taker {K:PySem.W.Frag}{C:Addr}{f:Str}(n:NoAttr K C f):PySem.W.takerIn K C f=some none:=by
 unfold PySem.W.takerIn
 rw [show PySem.W.findIn K (.ref C) f=some none from n]
 rfl
section
variable {X:Cx}{pins:List (Addr×Obj)}{σ:St}{H:Hp}{s:Shared}{a C dx:Addr}{fs:List (Str×V)}{f:Str}{v:V}{A:Around}{E:Value->Shared->Prop}
theorem getattr_ok {b:Bool}{Q:Value->Shared->Prop}(I:Inv X pins σ H s)(e:H a=some (.ins C dx fs))(c:Cls X.K C)(n:NoAttr X.K C f)(l:fs.lookup f=some v)
  (h:∀ u s',Inv X pins σ H s'->RelV v u->Q u s'):wpAny (model X.prog X.w) A (getAttr (.ref a) f b) Q E s:=by
 obtain ⟨mA,O,r,_,_,_⟩:=ins_get I.hok e
 obtain ⟨u,hu,ru⟩:=RelO.some_of (v:=v) (o:=mA f) (by rw [<- l];exact r f)
 exact get_map I.kIn O (c.get f) c.hd n hu (handed_of ru) (h u _ (I.tok _) ru)
theorem setattr_ok {y:V}{u:Value}{Q:Unit->Shared->Prop}(I:Inv X pins σ H s)(e:H a=some (.ins C dx fs))(c:Cls X.K C)(n:NoAttr X.K C f)(hl:fs.length<1000)(ry:RelV y u)
  (h:∀ s',Inv X pins σ (upd H a (.ins C dx (putF f y fs))) s'->Q () s'):wpAny (model X.prog X.w) A (setAttr (.ref a) f u) Q E s:=by
 obtain ⟨mA,O,r,wi,_,ho⟩:=ins_get I.hok e
 have hz:(fs.map (·.1)).length<=sizeLine:=by rw [List.length_map,sizeLine_eq];omega
 refine set_map I.kIn O c.sa c.po n.taker c.hd wi hz fun h' O' sb=>h _ ?_
 have hd:∃ o,h'.get? dx=some o:=let ⟨o,_,_,e',_⟩:=O'.ns;⟨o,e'⟩
 refine I.write (x:=a) (e:=dx) (by rw [e];exact True.intro) (.inr ho) (fun b q hb z=>(sb.2 b hb).trans z) hd ?_
 refine ⟨by rw [upd_ne O.ne];exact ho,?_,O.ne,O'.obj,_,O'.ns,fun g=>?_,fun g hg=>?_⟩
 ·have:=length_putF f y fs;omega
 ·show RelO ((putF f y fs).lookup g) (if g=f then some u else mA g)
  rw [lookup_putF]
  by_cases q:g=f
  ·rw [if_pos q,if_pos q];exact ry
  ·rw [if_neg q,if_neg q];exact r g
 ·by_cases q:g=f
  ·rw [q];exact (keys_putF f y fs).1
  ·refine (keys_putF f y fs).2 g (wi g fun z=>hg ?_)
   show (if g=f then some u else mA g)=none
   rw [if_neg q];exact z
theorem Inv.made (I:Inv X pins σ H s):Inv X pins σ (upd (upd H s.heap.objs.size (.own (s.heap.objs.size+1))) (s.heap.objs.size+1) (.ins C s.heap.objs.size []))
  { s with heap:=(s.heap.push PySem.W.emptyDict).push (PySem.W.instObj C s.heap.objs.size) }:=by
 have e1:(s.heap.push PySem.W.emptyDict).get? s.heap.objs.size=some PySem.W.emptyDict:=Heap.get?_push_size s.heap rfl
 have e2:((s.heap.push PySem.W.emptyDict).push (PySem.W.instObj C s.heap.objs.size)).get? (s.heap.objs.size+1)=some (PySem.W.instObj C s.heap.objs.size):=by
  have:=Heap.get?_push_size (s.heap.push PySem.W.emptyDict) (o:=PySem.W.instObj C s.heap.objs.size) rfl
  rwa [Heap.size_push] at this
 have e3:(s.heap.push PySem.W.emptyDict).Ns s.heap.objs.size (fun _=>none):=⟨PySem.W.emptyDict,#[],_,e1,rfl,(fun e he=>absurd he (by simp)),fun _=>rfl⟩
 have I1:=I.laid (a:=s.heap.objs.size) (o:=.own (s.heap.objs.size+1)) (h':=s.heap.push PySem.W.emptyDict) (t':=s.toks) (fun b u q=>Heap.get?_push_of_some _ q) (Nat.le_refl _) ⟨_,e1⟩
 refine I1.laid (a:=s.heap.objs.size+1) (o:=.ins C s.heap.objs.size []) (t':=s.toks) (fun b u q=>Heap.get?_push_of_some _ q) (Nat.le_of_eq (Heap.size_push _ _)) ?_
 have ne:s.heap.objs.size≠s.heap.objs.size+1:=Nat.ne_of_lt (Nat.lt_succ_self _)
 refine ⟨by rw [upd_ne ne,upd_same],Nat.zero_le _,ne,e2,fun _=>none,(Heap.Ns1.of_empty e3).at fun o q=>Heap.get?_push_of_some _ q,fun _=>True.intro,fun y hy=>absurd rfl hy⟩
theorem attr_of {prog:Program}{w:World}{env:Env}{e:Expr}{f:Str}{pos:Pos}{s:Shared}{Q:Value->Shared->Prop}(hb:attributeBase e f env (eval e env)=eval e env)
  (h:wpAny (model prog w) A (eval e env) (fun o s₁=>wpAny (model prog w) A (getAttr o f true) Q E s₁) E s):wpAny (model prog w) A (eval (.Attribute e f pos) env) Q E s :=
 Attribute_any_ h (by rw [arm_eval_Attribute,hb])
end
def tFld (K:PySem.W.Frag)(ta:TE)(f:Str):TE:=fun σ H Q=>ta σ H fun x H1=>∃ a C dx fs v,x = .ref a∧H1 a=some (.ins C dx fs)∧Cls K C∧NoAttr K C f∧fs.lookup f=some v∧Q v H1
def sFld (K:PySem.W.Frag)(ta tv:TE)(f:Str):TS:=fun D σ H=>tv σ H fun y H1=>ta σ H1 fun x H2=>∃ a C dx fs,x = .ref a∧H2 a=some (.ins C dx fs)∧Cls K C∧NoAttr K C f∧fs.length<1000 ∧
 D.nx σ (upd H2 a (.ins C dx (putF f y fs)))
section
variable {X:Cx}{o e value:Expr}{f:Str}{pos pos' tpos:Pos}{ta tv:TE}
theorem pe_fld (he:PE X e ta)(hb:attributeBase e f X.env (eval e X.env)=eval e X.env):PE X (.Attribute e f pos) (tFld X.K ta f):=by
 intro pins s σ H Q I h
 refine attr_of hb (thn (he pins s σ H _ I h) fun u s1 ⟨x,H1,I1,rx,a,C,dx,fs,v,ex,ea,c,n,l,q⟩=>?_)
 subst ex
 obtain rfl:u=Value.ref a:=rx
 exact getattr_ok I1 ea c n l fun u' s2 I2 ru=>⟨v,H1,I2,ru,q⟩
theorem ps_fld (ha:PE X o ta)(hv:PE X value tv)(hs:swapsWith value (some (.Attribute o f pos')) pos.line X.env=pure false):PS X (.Assign [.Attribute o f pos'] value pos) (sFld X.K ta tv f):=by
 intro pins s σ H D I h
 refine plainObj_wpAny_Assign_Attribute (thn (hv pins s σ H _ I h) fun u s1 ⟨y,H1,I1,ry,q⟩=>thn (ha pins s1 σ H1 _ I1 q) fun ov s2 ⟨x,H2,I2,rx,a,C,dx,fs,ex,ea,c,n,l,q2⟩=>?_) hs
 subst ex
 obtain rfl:ov=Value.ref a:=rx
 exact setattr_ok I2 ea c n l ry fun s3 I3=>⟨σ,_,I3,q2⟩
end
section
variable {X:Cx}{pins:List (Addr×Obj)}{σ:St}{H:Hp}{s:Shared}{A:Around}{E:Value->Shared->Prop}{Q:Value->Shared->Prop}{c:Value}{b:Bool}
inductive TyOf (K:PySem.W.Frag)(H:Hp):V->Value->Prop where
 | non:TyOf K H .non (.type "NoneType")
 | bl (x:Bool):TyOf K H (.bl x) (.type "bool")
 | int (i:Int):TyOf K H (.int i) (.type "int")
 | str (x:Str):TyOf K H (.str x) (.type "str")
 | flt (x:UInt64):TyOf K H (.flt x) (.type "float")
 | lst {a:Addr} {xs:List V} (e:H a=some (.lst xs)):TyOf K H (.ref a) (.type "list")
 | frz {a:Addr} {o:Obj} {xs:List V} (e:H a=some (.frz o (.lst xs))):TyOf K H (.ref a) (.type "list")
 | tup {a:Addr} {xs:List V} (e:H a=some (.tup xs)):TyOf K H (.ref a) (.type "tuple")
 | dK {a:Addr} {kvs:List (Key×V)} (e:H a=some (.dK kvs)):TyOf K H (.ref a) (.type "dict")
 | dT {a:Addr} {kvs:List (List Key×V)} (e:H a=some (.dT kvs)):TyOf K H (.ref a) (.type "dict")
 | ins {a C dx:Addr} {fs:List (Str×V)} (e:H a=some (.ins C dx fs)) (cl:Cls K C) (ha:PySem.W.findIn K (.ref C) "__class__" = some (some (.builtin "object.__class__")))
  (hn:PySem.W.specialIn K (.builtin "object.__class__") "__get__" = some (some (.builtin "getset_descriptor.__get__"))) (htk:PySem.W.takesIn K (.builtin "object.__class__")=some true)
  (hm:PySem.W.mroIn K C (.type "object")=some true):TyOf K H (.ref a) (.ref C)
theorem isinst_ok {x:V}{u t:Value}(I:Inv X pins σ H s)(rx:RelV x u)(ty:TyOf X.K H x t)(e:PySem.W.kitOne X.K t c=some b)(h:∀ tk,Q (.bool b) { s with toks:=tk }) :
  wpAny (model X.prog X.w) A (call (.builtin "isinstance") [u,c]) Q E s:=by
 cases ty with
 | non=>cases (show u=Value.none from rx);exact PySem.W.kia_one PySem.W.kitx_none I.kIn True.intro e (fun z=>nomatch z) h
 | bl y=>cases (show u=Value.bool y from rx);exact PySem.W.kia_one PySem.W.kitx_bool I.kIn True.intro e (fun z=>nomatch z) h
 | int i=>obtain ⟨t,q⟩:=(show ∃ t,u=Value.int i t from rx);cases q;exact PySem.W.kia_one PySem.W.kitx_int I.kIn True.intro e (fun z=>nomatch z) h
 | str y=>obtain ⟨t,q⟩:=(show ∃ t,u=Value.str y t from rx);cases q;exact PySem.W.kia_one PySem.W.kitx_str I.kIn True.intro e (fun z=>nomatch z) h
 | flt y=>obtain ⟨t,q⟩:=(show ∃ t,u=Value.float y t from rx);cases q;exact PySem.W.kia_one PySem.W.kitx_float I.kIn True.intro e (fun z=>nomatch z) h
 | @lst a xs ea =>
  cases (show u=Value.ref a from rx)
  obtain ⟨_,_,n,_,h1⟩:=(show ObjOk X.prog X.w H s.heap a (.lst xs) from I.hok a _ ea)
  exact PySem.W.kia_one PySem.W.kitx_list I.kIn ⟨_,h1,rfl⟩ e (fun z=>nomatch z) h
 | @frz a ob xs ea =>
  cases (show u=Value.ref a from rx)
  obtain ⟨_,_,_,n,_,h1⟩:=(show ObjOk X.prog X.w H s.heap a (.frz ob (.lst xs)) from I.hok a _ ea)
  exact PySem.W.kia_one PySem.W.kitx_list I.kIn ⟨_,h1,rfl⟩ e (fun z=>nomatch z) h
 | @tup a xs ea =>
  cases (show u=Value.ref a from rx)
  obtain ⟨_,_,_,p⟩:=(show ObjOk X.prog X.w H s.heap a (.tup xs) from I.hok a _ ea)
  obtain ⟨o,h1,h2,_⟩:=p
  exact PySem.W.kia_one PySem.W.kitx_tuple I.kIn ⟨o,h1,h2⟩ e (fun z=>nomatch z) h
 | @dK a kvs ea =>
  cases (show u=Value.ref a from rx)
  obtain ⟨_,_,vs,_,p⟩:=(show ObjOk X.prog X.w H s.heap a (.dK kvs) from I.hok a _ ea)
  obtain ⟨o,es,ep,h1,h2,_⟩:=p
  exact PySem.W.kia_one PySem.W.kitx_dict I.kIn ⟨o,h1,h2.1⟩ e (fun z=>nomatch z) h
 | @dT a kvs ea =>
  cases (show u=Value.ref a from rx)
  obtain ⟨_,_,xs,_,o,es,ep,h1,h2,_⟩:=(show ObjOk X.prog X.w H s.heap a (.dT kvs) from I.hok a _ ea)
  exact PySem.W.kia_one PySem.W.kitx_dict I.kIn ⟨o,h1,h2.1⟩ e (fun z=>nomatch z) h
 | @ins a C dx fs ea cl ha hn htk hm =>
  cases (show u=Value.ref a from rx)
  obtain ⟨mA,O,_⟩:=ins_get I.hok ea
  obtain ⟨od,J,_⟩:=O.look
  exact PySem.W.kia_one (PySem.W.kitx_own (cl.get _) cl.hd ha hn htk hm) I.kIn J e (fun z=>nomatch z) h
end
end L2
namespace L2
open PySem PySem.Spec PyProof.Rows
set_option genInjectivity false in
structure Room (k:Nat)(A:Around):Prop where
 hd:A.handled=none
 dp:A.depth+3*k+5<recursionLimit
 un:A.units+16*k+200<cLine
theorem Room.mono {j k:Nat}{A:Around}(r:Room k A)(h:j<=k):Room j A:=⟨r.hd,by have:=r.dp;omega,by have:=r.un;omega⟩
theorem Room.deeper {k:Nat}{A:Around}(r:Room (k+1) A)(env:Env):Room k (A.deeper env) :=
 ⟨r.hd,by have:=r.dp;show A.depth+1+3*k+5<_;omega,by have:=r.un;show A.units+3+16*k+200<_;omega⟩
theorem make_depth {A:Around}{C:Addr}{us:List Value}{kw:List (Str×Value)}:(A.under (.builtin "type.__call__" ⟨.ref C::us,kw⟩)).depth=A.depth+1:=by
 first | rfl | simp [Around.under,Code.weight,Code.isCreation,Code.isGuard,Code.isCaller,Code.frames,Code.isFrame,guardIds]
theorem make_units {A:Around}{C:Addr}{us:List Value}{kw:List (Str×Value)}:(A.under (.builtin "type.__call__" ⟨.ref C::us,kw⟩)).units=A.units+1:=by
 first | rfl | simp [Around.under,Code.cUnits,Code.frames,Code.isFrame]
theorem Room.make {k:Nat}{A:Around}(r:Room (k+1) A)(C:Addr)(us:List Value)(kw:List (Str×Value)):Room k (A.under (.builtin "type.__call__" ⟨.ref C::us,kw⟩)) :=
 ⟨r.hd,by have:=r.dp;rw [make_depth];omega,by have:=r.un;rw [make_units];omega⟩
theorem Room.depth {k:Nat}{A:Around}(r:Room k A):A.depth<recursionLimit:=by have:=r.dp;omega
theorem Room.units {k:Nat}{A:Around}(r:Room k A):A.units+64<cLine:=by have:=r.un;omega
def tNil:TA:=fun _ H Q=>Q [] H
def tCons (ta:TE)(tr:TA):TA:=fun σ H Q=>ta σ H fun x H1=>tr σ H1 fun xs H2=>Q (x::xs) H2
section
variable {X:Cx}{e:Expr}{es:List Expr}{te:TE}{t:TA}{pos:Pos}
theorem pa_nil:PA X [] tNil:=fun _ _ _ _ H Q I h=>Calls.spliced_nil ⟨[],H,I,.nil,h⟩
theorem pa_cons (ha:PE X e te)(hr:PA X es t)(hs:starEach (e::es) X.env=(false,eval e X.env)::starEach es X.env:=by rfl):PA X (e::es) (tCons te t):=by
 intro pos pins s σ H Q I h
 rw [hs]
 show wpAny _ _ (spliced ((false,eval e X.env)::backTo pos (starEach es X.env))) _ _ s
 refine Calls.spliced_cons (thn (ha pins s σ H _ I h) fun u s1 ⟨x,H1,I1,r1,q1⟩=>?_)
 exact thn (hr pos pins s1 σ H1 _ I1 q1) fun us s2 ⟨xs,H2,I2,r2,q2⟩=>⟨x::xs,H2,I2,.cons r1 r2,q2⟩
def tLst (t:TA):TE:=fun σ H Q=>t σ H fun xs H1=>xs.length<=sizeLine∧∀ p,H1 p=none->Q (.ref p) (upd H1 p (.lst xs))
theorem pe_lst (h:PA X es t):PE X (.List es pos) (tLst t):=by
 intro pins s σ H Q I hq
 refine wpAny_List_spliced (thn (h pos pins s σ H _ I hq) fun us s1 ⟨xs,H1,I1,r,z,q⟩=>⟨by rw [<- r.length];exact z,?_⟩)
 have hf:H1 s1.heap.objs.size=none:=I1.hok.fresh (Nat.le_refl _)
 refine ⟨.ref s1.heap.objs.size,upd H1 s1.heap.objs.size (.lst xs),I1.laid (t':=s1.toks) (fun b u e=>Heap.get?_push_of_some _ e) (Nat.le_refl _) ?_,rfl,q _ hf⟩
 exact ⟨z,us,0,r,Heap.get?_push_size _ rfl⟩
end
abbrev Sp:=List V->Hp->VK->XK->Prop
abbrev CXT:=List Env->Hp->Shared->XK->Value->Shared->Prop
set_option genInjectivity false in
structure Env0 (P:Program)(w:World)(K:PySem.W.Frag)(mg:Str->Option Value)(base:Heap)(A:Around)(outer:List Env)(s:Shared)(H:Hp):Prop where
 frames:A.frames=some outer
 mod:Mod K mg base
 bs:∀ b o,base.get? b=some o->s.heap.get? b=some o∧H b=none
 bsz:base.objs.size<=s.heap.objs.size
 funs:s.heap.FunFrames base outer
 frf:∀ b∈frs outer,H b=none
 hok:HOk P w H s.heap
 bare:AllBare s.gens
def CE (outer:List Env)(P:Program)(w:World)(H:Hp)(s:Shared)(Q:VK)(u:Value)(s':Shared):Prop :=
 ∃ v H',s'.os=s.os∧AllBare s'.gens∧Un (frs outer) [] H H' s.heap s'.heap∧HOk P w H' s'.heap∧RelV v u∧Q v H'
def CR (CX:CXT)(outer:List Env)(P:Program)(w:World)(H:Hp)(s:Shared)(Q:VK)(E:XK)(r:Result)(s':Shared):Prop :=
 match r with
 | .ok (.ret u)=>CE outer P w H s Q u s'
 | .ok _=>False
 | .error e=>CX outer H s E e s'
set_option genInjectivity false in
structure FnOk (P:Program)(w:World)(K:PySem.W.Frag)(mg:Str->Option Value)(base:Heap)(CX:CXT)(k:Nat)(f:Addr)(fd:FuncData)(ps:List Str)(sp:Sp):Prop where
 len:∀ vs H Q E,sp vs H Q E->vs.length=ps.length
 run:∀ (A:Around) (outer:List Env) (s:Shared) (H:Hp) (args:Args) (us:List Value) (vs:List V) (Q:VK) (E:XK),Room k A->Env0 P w K mg base A outer s H->BindsTo s fd args (ps.zip us)->Vals vs us->sp vs H Q E ->
  codeAny (model P w) A (.call (.ref f) args) (CR CX outer P w H s Q E) s
theorem Env0.make {P:Program}{w:World}{K:PySem.W.Frag}{mg:Str->Option Value}{base:Heap}{A:Around}{outer:List Env}{s:Shared}{H:Hp}(e:Env0 P w K mg base A outer s H)(C:Addr)(us:List Value)(kw:List (Str×Value)) :
 Env0 P w K mg base (A.under (.builtin "type.__call__" ⟨.ref C::us,kw⟩)) outer s H:=⟨by first | exact e.frames | (simpa [Around.under,Code.envs,Code.isFrame,pushEnvs] using e.frames),e.mod,e.bs,e.bsz,e.funs,e.frf,e.hok,e.bare⟩
section
variable {X:Cx}{pins:List (Addr×Obj)}{σ:St}{H:Hp}{s s':Shared}
theorem Inv.env0 (I:Inv X pins σ H s):Env0 X.prog X.w X.K X.mg X.base X.A X.stack s H :=
 ⟨I.ok.frames,I.ok.mod,I.bs,Nat.le_trans I.ok.bsz I.sz,I.stack,I.stkFree,I.hok,I.bare⟩
theorem Inv.after {Q:VK}{u:Value}(I:Inv X pins σ H s)(h:CE X.stack X.prog X.w H s Q u s'):EP X pins σ Q u s':=by
 obtain ⟨v,H',os,bare,un,hok,r,q⟩:=h
 obtain ⟨hh,g,d,t,os'⟩:=s'
 obtain rfl:os'=s.os:=os
 exact ⟨v,H',I.call (h':=hh) (g':=g) (d':=d) (t':=t) (ch:=[]) un hok bare (fun b z=>absurd z (by simp)),r,q⟩
end
def tCall (sp:Sp)(dvs:List V)(E:XK)(t:TA):TE:=fun σ H Q=>t σ H fun vs H1=>sp (vs++dvs) H1 Q E
def tMake (C:Addr)(sp:Sp)(dvs:List V)(E:XK)(t:TA):TE:=fun σ H Q=>t σ H fun vs H1=>∀ x dx,H1 x=none->H1 dx=none->dx≠x ->
 sp (.ref x::(vs++dvs)) (upd (upd H1 dx (.own x)) x (.ins C dx [])) (fun v H2=>v = .non∧Q (.ref x) H2) E
def Binds (K:PySem.W.Frag)(fd:FuncData)(ps:List Str)(ds:List Value):Prop :=
 ∀ (s:Shared) (us:List Value),K.In s.heap->(us++ds).length=ps.length->BindsTo s fd ⟨us,[]⟩ (ps.zip (us++ds))
theorem Binds.all {K:PySem.W.Frag}{fd:FuncData}{ps:List Str}(h:∀ us:List Value,us.length=ps.length->bindArgs fd ⟨us,[]⟩=pure (ps.zip us)):Binds K fd ps []:=fun s us _ hl=>by
 rw [List.append_nil] at hl ⊢
 exact .of_eq (h us hl)
def Passes (CX:CXT)(X:Cx)(E:XK):Prop:=∀ (pins:List (Addr×Obj)) (σ:St) (H:Hp) (s:Shared) (e:Value) (s':Shared),Inv X pins σ H s->CX X.stack H s E e s'->X.xe e s'
section
variable {X:Cx}{CX:CXT}{k:Nat}{f C:Addr}{fd:FuncData}{ps:List Str}{sp:Sp}{dvs:List V}{ds:List Value}{E:XK}{x m:Str}{p pos apos:Pos}{e o:Expr}{es:List Expr}{ta:TE}{t:TA}
theorem run_fn {pins:List (Addr×Obj)}{σ:St}{H:Hp}{s:Shared}{Q:VK}{us:List Value}{vs:List V}(F:FnOk X.prog X.w X.K X.mg X.base CX k f fd ps sp)(hr:Room k X.A)(hb:Binds X.K fd ps ds)(hd:Vals dvs ds)(hx:Passes CX X E)
  (I:Inv X pins σ H s) (r:Vals vs us) (h:sp (vs++dvs) H Q E):wpAny (model X.prog X.w) X.A (call (.ref f) us) (EP X pins σ Q) X.xe s:=by
 have r2:Vals (vs++dvs) (us++ds):=r.append hd
 have hl:(us++ds).length=ps.length:=by rw [<- r2.length];exact F.len _ _ _ _ h
 refine wpAny_call (codeAny_mono (F.run X.A X.stack s H ⟨us,[]⟩ (us++ds) (vs++dvs) Q E hr I.env0 (hb s us I.kIn hl) r2 h) fun r s' hq=>?_)
 cases r with
 | error e=>exact hx pins σ H s e s' I hq
 | ok fl =>
  cases fl with
  | ret u=>exact I.after hq
  | next=>exact False.elim hq
  | brk=>exact False.elim hq
  | cont=>exact False.elim hq
theorem pe_call (F:FnOk X.prog X.w X.K X.mg X.base CX k f fd ps sp)(hr:Room k X.A)(hg:Gl X x)(hm:X.mg x=some (.ref f))(hk:PySem.W.keepIn X.K (.ref f)=true)(hb:Binds X.K fd ps ds)(hd:Vals dvs ds)(hx:Passes CX X E)
  (ha:PA X (e::es) t) (hdb:(x==("__debug__" : Str))=false:=by decide) (he:starEach (e::es) X.env=(false,eval e X.env)::starEach es X.env:=by rfl) (hpl:(backTo pos (starEach es X.env)).any (·.1)=false:=by rfl) :
  PE X (.Call (.Name x p) (e::es) [] pos) (tCall sp dvs E t):=by
 intro pins s σ H Q I h
 refine wpAny_Call_Name_kw (ld_glob I hg hm ?_ hdb)
 refine PySem.W.callWith_K (h₀:=X.base) I.ok.mod.kin hk (thn (ha pos pins s σ H _ I h) fun us s1 ⟨vs,H1,I1,r,q⟩=>⟨I1.kIn,?_⟩) he hpl
 exact run_fn F hr hb hd hx I1 r q
set_option genInjectivity false in
structure Mk (K:PySem.W.Frag)(C f:Addr):Prop where
 makes:PySem.W.makesIn K C=true
 init:PySem.W.findIn K (.ref C) "__init__" = some (some (.ref f))
 fn:PySem.W.isFn K (.ref f)=true
 kp:PySem.W.keepIn K (.ref C)=true
theorem run_make {pins:List (Addr×Obj)}{σ:St}{H:Hp}{s:Shared}{Q:VK}{us:List Value}{vs:List V}(M:Mk X.K C f)(F:FnOk X.prog X.w X.K X.mg X.base CX k f fd ps sp)(hr:Room (k+1) X.A)(hb:Binds X.K fd ps ds)(hd:Vals dvs ds)
  (hx:Passes CX X E) (I:Inv X pins σ H s) (r:Vals vs us)
  (h:∀ x dx,H x=none->H dx=none->dx≠x->sp (.ref x::(vs++dvs)) (upd (upd H dx (.own x)) x (.ins C dx [])) (fun v H2=>v = .non∧Q (.ref x) H2) E) :
  wpAny (model X.prog X.w) X.A (call (.ref C) us) (EP X pins σ Q) X.xe s:=by
 have hq:=h (s.heap.objs.size+1) s.heap.objs.size (I.hok.fresh (Nat.le_succ _)) (I.hok.fresh (Nat.le_refl _)) (Nat.ne_of_lt (Nat.lt_succ_self _))
 have I2:=Inv.made (C:=C) I
 have r2:Vals (V.ref (s.heap.objs.size+1)::(vs++dvs)) (Value.ref (s.heap.objs.size+1)::(us++ds)):=.cons rfl (r.append hd)
 have hl:(Value.ref (s.heap.objs.size+1)::us++ds).length=ps.length:=by
  have e:=r2.length
  rw [F.len _ _ _ _ hq] at e
  exact e.symm
 refine wpAny_call (make_map (f:=f) I.kIn M.makes M.init (beq_iff_eq.mp M.fn) (codeAny_mono (F.run _ X.stack _ _ ⟨Value.ref (s.heap.objs.size+1)::us,[]⟩ (Value.ref (s.heap.objs.size+1)::(us++ds)) _ _ E (hr.make C us [])
  (I2.env0.make C us []) (hb _ (Value.ref (s.heap.objs.size+1)::us) I2.kIn hl) r2 hq) fun r s' hq'=>?_))
 cases r with
 | error e=>exact hx pins σ _ _ e s' I2 hq'
 | ok fl =>
  cases fl with
  | ret u =>
   obtain ⟨v,H',I3,rv,ev,q3⟩:=I2.after hq'
   subst ev
   exact ⟨rv,⟨V.ref (s.heap.objs.size+1),H',I3,rfl,q3⟩⟩
  | next=>exact False.elim hq'
  | brk=>exact False.elim hq'
  | cont=>exact False.elim hq'
theorem pe_make (M:Mk X.K C f)(F:FnOk X.prog X.w X.K X.mg X.base CX k f fd ps sp)(hr:Room (k+1) X.A)(hg:Gl X x)(hm:X.mg x=some (.ref C))(hb:Binds X.K fd ps ds)(hd:Vals dvs ds)(hx:Passes CX X E)
  (ha:PA X (e::es) t) (hdb:(x==("__debug__" : Str))=false:=by decide) (he:starEach (e::es) X.env=(false,eval e X.env)::starEach es X.env:=by rfl) (hpl:(backTo pos (starEach es X.env)).any (·.1)=false:=by rfl) :
  PE X (.Call (.Name x p) (e::es) [] pos) (tMake C sp dvs E t):=by
 intro pins s σ H Q I h
 refine wpAny_Call_Name_kw (ld_glob I hg hm ?_ hdb)
 refine PySem.W.callWith_K (h₀:=X.base) I.ok.mod.kin M.kp (thn (ha pos pins s σ H _ I h) fun us s1 ⟨vs,H1,I1,r,q⟩=>⟨I1.kIn,?_⟩) he hpl
 exact run_make M F hr hb hd hx I1 r q
end
section
variable {X:Cx}{CX:CXT}{k:Nat}{f C:Addr}{fd:FuncData}{ps ks:List Str}{sp:Sp}{E:XK}{x m:Str}{p pos apos kpos:Pos}{e o:Expr}{es:List Expr}{kws:List Keyword}{te ta:TE}{t tk:TA}{nm:Option Str}
variable {g:List Value->List Value->List Value}{gV:List V->List V->List V}
end
set_option genInjectivity false in
structure FnScope (N P:List Str)(sc:Scope):Prop where
 kind:sc.kind = .function
 co:sc.isCoroutine=false
 gen:sc.isGenerator=false
 nd:N.Nodup
 pre:N.take P.length=P
 par:∀ x∈P,sc.names.lookup x=some .local∨sc.names.lookup x=some .cell
 nofree:∀ y∈sc.names,y.2≠.free
theorem bindL_out {kindOf:Str->Option NameKind}{x:Str}:∀ {binds:List (Str×Value)} {m:Str->Option Value},(∀ v,(x,v)∉binds)->bindL kindOf binds m x=m x
 | [],_,_=>rfl
 | (n,v)::r,m,h=>by
  unfold bindL
  rw [bindL_out fun w hw=>h w (List.mem_cons_of_mem _ hw)]
  split
  ·have:x≠n:=by rintro rfl;exact h v List.mem_cons_self
   simp [this]
  ·rfl
theorem bindC_out {kindOf:Str->Option NameKind}{x:Str}:∀ {binds:List (Str×Value)} {m:Str->Option Value},(∀ v,(x,v)∉binds)->bindC kindOf binds m x=m x
 | [],_,_=>rfl
 | (n,v)::r,m,h=>by
  unfold bindC
  rw [bindC_out fun w hw=>h w (List.mem_cons_of_mem _ hw)]
  split
  ·rfl
  ·have:x≠n:=by rintro rfl;exact h v List.mem_cons_self
   simp [this]
theorem bindL_get {kindOf:Str->Option NameKind}{x:Str}{v:Value}:∀ {P:List Str} {vs:List Value} {i:Nat} {m:Str->Option Value},P.Nodup->P[i]?=some x->vs[i]?=some v->kindOf x=some .local ->
  bindL kindOf (P.zip vs) m x=some v
 | [],_,_,_,_,h,_,_=>by simp at h
 | _::_,[],_,_,_,_,h,_=>by simp at h
 | p::P,w::vs,0,m,nd,h1,h2,hk=>by
  simp at h1 h2;subst h1;subst h2
  show bindL kindOf ((p,w)::P.zip vs) m p=_
  unfold bindL
  rw [bindL_out fun v hv=>(List.nodup_cons.mp nd).1 (List.of_mem_zip hv).1,if_pos hk]
  simp
 | p::P,w::vs,i+1,m,nd,h1,h2,hk=>by
  show bindL kindOf ((p,w)::P.zip vs) m x=_
  unfold bindL
  exact bindL_get (i:=i) (List.nodup_cons.mp nd).2 (by simpa using h1) (by simpa using h2) hk
theorem bindC_get {kindOf:Str->Option NameKind}{x:Str}{v:Value}:∀ {P:List Str} {vs:List Value} {i:Nat} {m:Str->Option Value},P.Nodup->P[i]?=some x->vs[i]?=some v->kindOf x≠some .local ->
  bindC kindOf (P.zip vs) m x=some v
 | [],_,_,_,_,h,_,_=>by simp at h
 | _::_,[],_,_,_,_,h,_=>by simp at h
 | p::P,w::vs,0,m,nd,h1,h2,hk=>by
  simp at h1 h2;subst h1;subst h2
  show bindC kindOf ((p,w)::P.zip vs) m p=_
  unfold bindC
  rw [bindC_out fun v hv=>(List.nodup_cons.mp nd).1 (List.of_mem_zip hv).1,if_neg hk]
  simp
 | p::P,w::vs,i+1,m,nd,h1,h2,hk=>by
  show bindC kindOf ((p,w)::P.zip vs) m x=_
  unfold bindC
  exact bindC_get (i:=i) (List.nodup_cons.mp nd).2 (by simpa using h1) (by simpa using h2) hk
def start (N:List Str)(vs:List V):St:=vs.map some++List.replicate (N.length-vs.length) none
def cxOf (CX:CXT)(P:Program)(w:World)(K:PySem.W.Frag)(mg:Str->Option Value)(base:Heap)(N:List Str)(qual:Str)(scope:Scope)(f:Addr)(cd:Value)(A:Around)(outer:List Env)(s:Shared)(H:Hp)(E:XK):Cx where
 prog:=P
 w:=w
 K:=K
 mg:=mg
 base:=base
 A:=A.deeper (envOfC qual scope s.heap.objs.size f cd)
 N:=N
 s₀:=s
 H₀:=H
 env:=envOfC qual scope s.heap.objs.size f cd
 outer:=outer
 stack:=envOfC qual scope s.heap.objs.size f cd::outer
 ex:=[]
 calm:=true
 fn:=fun _=>true
 pn:=[]
 xe:=fun e s'=>wpAny (model P w) (A.deeper (envOfC qual scope s.heap.objs.size f cd)) (leaving (envOfC qual scope s.heap.objs.size f cd) e) (fun _ s''=>CX outer H s E e s'') (fun e' s''=>CX outer H s E e' s'') s'
theorem cell_has {sc:Scope}{n:Nat}{x:Str}(h:sc.names.lookup x=some .cell):∃ c,(cellsFrom n sc.names []).lookup x=some c:=by
 have q:=PySem.W.cellsFrom_some sc.names n [] (.inl h)
 exact Option.isSome_iff_exists.mp q
theorem inv_start {CX:CXT}{P:Program}{w:World}{K:PySem.W.Frag}{mg:Str->Option Value}{base:Heap}{N ps:List Str}{qual:Str}{scope:Scope}{f:Addr}{cd:Value}{A:Around}{outer:List Env}{s s1:Shared}{H:Hp}{E:XK}{us:List Value}{vs:List V}
  (S:FnScope N ps scope) (hd:A.handled=none) (e0:Env0 P w K mg base A outer s H) (hl:vs.length=ps.length) (r:Vals vs us)
  (x:InCallC s s.heap.objs.size (bindL (envOfC qual scope s.heap.objs.size f cd).kindOf (ps.zip us) fun _=>none) (cellsFrom (s.heap.objs.size+1) scope.names []) (bindC (envOfC qual scope s.heap.objs.size f cd).kindOf (ps.zip us) fun _=>none) s1) :
  Inv (cxOf CX P w K mg base N qual scope f cd A outer s H E) [] (start N vs) H s1:=by
 have hpl:ps.length<=N.length:=by have:=congrArg List.length S.pre;rw [List.length_take] at this;omega
 obtain ⟨h1,tk,rfl,hk⟩:=x.done
 have noA:∀ b:Addr,b∉(cxOf CX P w K mg base N qual scope f cd A outer s H E).ex:=fun b z=>absurd (show b∈([]:List Addr) from z) (by simp)
 refine ⟨⟨e0.mod,S.kind,rfl,rfl,Nat.le_refl _,fun y z c h1 h2=>?_,fun y hy=>?_,fun y c _ h=>?_,fun _=>hd,Around.frames_deeper e0.frames,.inr ⟨rfl,rfl⟩,fun b z=>absurd z (noA b),e0.bs,e0.bsz,fun b _ _=>noA b,fun b z=>absurd z (noA b),e0.funs,e0.frf⟩,
  rfl,e0.bare,Un.kept hk,⟨_,x.toInCall.ns,fun i y v h1 h2 h3=>?_⟩,fun y c h=>⟨_,x.cell y c h⟩,e0.hok.fresh (Nat.le_refl _),fun y c h=>?_,fun p hp=>absurd (show p∈([]:List (Addr×Obj)) from hp) (by simp),e0.hok.kept hk,?_⟩
 ·exact name_of_addr x.apart (PySem.mem_of_lookup h1) (PySem.mem_of_lookup h2)
 ·have hy:scope.names.lookup y=some .cell∨scope.names.lookup y=some .free:=hy
  rcases hy with hy | hy
  ·exact cell_has hy
  ·exact absurd rfl (S.nofree _ (PySem.mem_of_lookup hy))
 ·exact Nat.le_of_lt (x.above y c (PySem.mem_of_lookup h))
 ·have hi:i<vs.length:=by
   unfold start at h2
   by_cases hi:i<vs.length
   ·exact hi
   ·rw [List.getElem?_append_right (by simpa using hi)] at h2
    rw [List.getElem?_replicate] at h2
    split at h2 <;> cases h2
  have ha:vs[i]?=some v:=by
   unfold start at h2
   rw [List.getElem?_append_left (by simpa using hi),List.getElem?_map] at h2
   cases e:vs[i]? with
   | none=>rw [e] at h2;cases h2
   | some a=>rw [e] at h2;cases h2;rfl
  obtain ⟨u,hu,rv⟩:=r.get ha
  have hp:ps[i]?=some y:=by
   rw [<- S.pre,List.getElem?_take_of_lt (by omega)];exact h1
  have ndP:ps.Nodup:=by rw [<- S.pre];exact S.nd.sublist (List.take_sublist _ _)
  refine ⟨u,rv,?_⟩
  rcases S.par y (List.mem_of_getElem? hp) with k | k
  ·exact .inl ⟨k,bindL_get ndP hp hu k⟩
  ·obtain ⟨c,e⟩:=cell_has (n:=s.heap.objs.size+1) k
   refine .inr ⟨.inl k,c,e,?_⟩
   have q:=x.cell y c e
   rw [bindC_get ndP hp hu (by show scope.names.lookup y≠_;rw [k];decide)] at q
   exact q
 ·exact e0.hok.fresh (Nat.le_of_lt (x.above y c (PySem.mem_of_lookup h)))
 ·unfold start
  show _=N.length
  rw [List.length_append,List.length_map,List.length_replicate]
  omega
theorem fn_of {CX:CXT}{P:Program}{w:World}{K:PySem.W.Frag}{mg:Str->Option Value}{base:Heap}{k:Nat}{f:Addr}{name qual:Str}{params:Arguments}{body:List Stmt}{scope:Scope}{dV kV doc pm cdv ct oc:Value}{an od:Option Addr}
  {osl:Array (Option Value)} {N ps:List Str} {sp:Sp} (lk:K.lookup f=some ⟨oc,od,.func (PySem.W.fnOf name qual params body scope dV kV doc pm an cdv ct),osl⟩) (hcd:PySem.W.codeIn K cdv qual=true) (S:FnScope N ps scope)
  (len:∀ vs H Q E,sp vs H Q E->vs.length=ps.length)
  (hbody:∀ (A:Around) (outer:List Env) (s:Shared) (H:Hp) (vs:List V) (Q:VK) (E:XK),Room k (A.deeper (envOfC qual scope s.heap.objs.size f cdv))->sp vs H Q E ->
   ∃ t,PSs (cxOf CX P w K mg base N qual scope f cdv A outer s H E) body t∧t { nx:=fun _ H'=>Q .non H',rt:=Q } (start N vs) H) :
  FnOk P w K mg base CX (k+1) f (PySem.W.fnOf name qual params body scope dV kV doc pm an cdv ct) ps sp:=by
 refine ⟨len,fun A outer s H args us vs Q E hr e0 hb r hsp=>?_⟩
 have hl:=len _ _ _ _ hsp
 have KX:K.In s.heap:=e0.mod.kin.keeps fun b o e=>(e0.bs b o e).1
 have lim:s.heap.NoLimit:=e0.mod.nolimit.keeps fun b o e=>(e0.bs b o e).1
 have hkind:∀ y∈ps.zip us,scope.names.lookup y.1=some .local∨(scope.names.lookup y.1=some .cell∧((cellsFrom (s.heap.objs.size+1) scope.names []).lookup y.1).isSome=true):=fun ⟨n,v⟩ hy=>by
  rcases S.par n (List.of_mem_zip hy).1 with q | q
  ·exact .inl q
  ·exact .inr ⟨q,PySem.W.cellsFrom_some _ _ _ (.inl q)⟩
 refine codeAny_call_function hr.depth (KX _ _ lk) rfl S.co S.gen rfl (PySem.W.codeRec_of KX hcd) (hb _ _ _ _ ?_)
 refine wpAny_newFunctionEnv_cells S.kind hkind fun env he s1 x=>?_
 subst he
 refine ⟨lim.keeps x.toInCall.keep,codeAny_func ?_⟩
 obtain ⟨t,ht,hq⟩:=hbody A outer s H vs Q E (hr.deeper _) hsp
 have I:Inv (cxOf CX P w K mg base N qual scope f cdv A outer s H E) [] (start N vs) H s1:=inv_start S hr.hd e0 hl r x
 refine wpAny_mono (ht [] s1 (start N vs) H _ I hq) (fun fl s' hs=>?_) fun e s' hs=>hs
 have fin:∀ {σ':St} {H':Hp} {v:V} {u:Value},Inv (cxOf CX P w K mg base N qual scope f cdv A outer s H E) [] σ' H' s'->RelV v u->Q v H'->CE outer P w H s Q u s' :=
  fun {σ' H' v u} J rv q=>⟨v,H',J.os,J.bare,J.base,J.hok,rv,q⟩
 cases fl with
 | ret u =>
  obtain ⟨v,σ',H',J,rv,q⟩:=hs
  exact fin J rv q
 | next =>
  obtain ⟨σ',H',J,q⟩:=hs
  exact fin (v:=V.non) (u:=Value.none) J rfl q
 | brk =>
  obtain ⟨_,_,_,q⟩:=hs
  exact False.elim q
 | cont =>
  obtain ⟨_,_,_,q⟩:=hs
  exact False.elim q
end L2
namespace L2
open PySem PySem.Spec PyProof.Rows
section
variable {X:Cx}{x:Str}{p pos:Pos}{e:Expr}{es:List Expr}{t:TA}{id T:String}{r:List V->Hp->VK->Prop}
def tCB (r:List V->Hp->VK->Prop)(t:TA):TE:=fun σ H Q=>t σ H fun vs H1=>r vs H1 Q
theorem pe_callB (hc:CallR X (.builtin id) r)(hg:Gl X x)(hm:X.mg x=none)(hv:bootBuiltins x=some (.builtin id))(ha:PA X (e::es) t)(hn:x ≠ "__name__" := by decide)(hdb:(x==("__debug__" : Str))=false:=by decide)
  (he:starEach (e::es) X.env=(false,eval e X.env)::starEach es X.env:=by rfl) (hpl:(backTo pos (starEach es X.env)).any (·.1)=false:=by rfl):PE X (.Call (.Name x p) (e::es) [] pos) (tCB r t):=by
 intro pins s σ H Q I h
 refine wpAny_Call_Name_kw (ld_blt I hg hm hv ?_ hn hdb)
 exact PyProof.Rows.callWith_builtin1 (thn (ha pos pins s σ H _ I h) fun us s1 ⟨vs,H1,I1,r1,q1⟩=>hc pins s1 σ H1 vs us Q I1 r1 q1) he hpl
theorem pe_callTy (hc:CallR X (.type T) r)(hg:Gl X x)(hm:X.mg x=none)(hv:bootBuiltins x=some (.type T))(ha:PA X (e::es) t)(hn:x ≠ "__name__" := by decide)(hdb:(x==("__debug__" : Str))=false:=by decide)
  (he:starEach (e::es) X.env=(false,eval e X.env)::starEach es X.env:=by rfl) (hpl:(backTo pos (starEach es X.env)).any (·.1)=false:=by rfl):PE X (.Call (.Name x p) (e::es) [] pos) (tCB r t):=by
 intro pins s σ H Q I h
 refine wpAny_Call_Name_kw (ld_blt I hg hm hv ?_ hn hdb)
 exact PyProof.Rows.callWith_type1 (thn (ha pos pins s σ H _ I h) fun us s1 ⟨vs,H1,I1,r1,q1⟩=>hc pins s1 σ H1 vs us Q I1 r1 q1) he hpl
end
end L2
namespace HT
open PySem PyProof.Rows
section
open PySem.SeqAt
open PySem.AutoSeq1 (wpAny_loadPart')
open PySem.MeetsSeq PySem.MeetsSeq2 PySem.MeetsSeq3
end
section
variable {prog:Program}{w:World}{A:Around}{E:Value->Shared->Prop}{s:Shared}
def sIx (n d:Nat):Option Int->Nat
 | none=>d
 | some v=>if v<0 then (v+(n:Int)).toNat else min v.toNat n
theorem sIx_none (n d:Nat):sIx n d none=d:=rfl
theorem sIx_nat (n d k:Nat):sIx n d (some (k:Int))=min k n:=by
 show (if (k:Int)<0 then ((k:Int)+(n:Int)).toNat else min (k:Int).toNat n)=min k n
 rw [if_neg (by omega),Int.toNat_natCast]
theorem sIx_le (n d:Nat)(hd:d<=n)(o:Option Int):sIx n d o<=n:=by
 cases o with
 | none=>exact hd
 | some v =>
  show (if v<0 then (v+(n:Int)).toNat else min v.toNat n)<=n
  by_cases hv:v<0
  ·rw [if_pos hv];omega
  ·rw [if_neg hv];exact Nat.min_le_right _ _
theorem clip_eq (v:Int)(n d:Nat):(if v<0 then max (v+(n:Int)) 0 else min v (n:Int))=((sIx n d (some v):Nat):Int):=by
 show (if v<0 then max (v+(n:Int)) 0 else min v (n:Int))=(((if v<0 then (v+(n:Int)).toNat else min v.toNat n):Nat):Int)
 by_cases hv:v<0
 ·simp only [if_pos hv];omega
 ·simp only [if_neg hv];omega
theorem adjust_gen (lo hi:Option Int)(n:Nat):Builtin.Slice.sliceAdjust lo hi 1 (n:Int)=(((sIx n 0 lo:Nat):Int),((sIx n n hi:Nat):Int)):=by
 have h1:¬ ((1:Int)<0):=by omega
 unfold Builtin.Slice.sliceAdjust
 simp only [h1,if_false]
 refine Prod.ext ?_ ?_
 ·cases lo with
  | none=>rfl
  | some v=>exact clip_eq v n 0
 ·cases hi with
  | none=>rfl
  | some v=>exact clip_eq v n n
theorem places_gen (i j:Nat):Builtin.Slice.slicePlaces (i:Int) (j:Int) 1=j-i:=by
 unfold Builtin.Slice.slicePlaces
 have h1:(1:Int)>0:=by omega
 simp only [h1,if_true,Int.ediv_one]
 split <;> omega
theorem slicePart_ {v:Value}{o:Option Int}{Q:Option Int->Shared->Prop}(p:IsPart v o)(h:Q o s):wpAny (model prog w) A (Builtin.Slice.slicePartIndex v) Q E s:=by
 cases p with
 | none=>exact slicePart_none h
 | int i t=>exact slicePart_int h
theorem sliceApplied_gen {sl:Addr}{vl vu:Value}{lo hi:Option Int}{n:Nat}{Q:Int×Int×Nat->Shared->Prop}(hs:s.heap.IsSliceOf sl vl vu .none)(pl:IsPart vl lo)(pu:IsPart vu hi)
  (h:Q (((sIx n 0 lo:Nat):Int),1,sIx n n hi-sIx n 0 lo) s):wpAny (model prog w) A (Builtin.Slice.sliceApplied (.ref sl) (pure (n:Int))) Q E s:=by
 obtain ⟨os,hos,hcs,hds⟩:=id hs
 unfold Builtin.Slice.sliceApplied Builtin.Slice.sliceFields
 refine wpAny_bind (wpAny_bind (wpAny_field hos hds (x:=vl) rfl (wpAny_bind (wpAny_field hos hds (x:=vu) rfl (wpAny_bind (wpAny_field hos hds (x:=.none) rfl (wpAny_pure ?_)))))))
 refine wpAny_bind (slicePart_none ?_)
 show wpAny _ _ (if ((1:Int)==0)=true then _ else _) _ _ s
 rw [if_neg (by decide)]
 refine wpAny_bind (slicePart_ pl (wpAny_bind (slicePart_ pu (wpAny_bind (wpAny_pure ?_)))))
 show wpAny _ _ (match Builtin.Slice.sliceAdjust lo hi 1 (n:Int) with | (lo,hi)=>pure (lo,(1:Int),Builtin.Slice.slicePlaces lo hi 1)) _ _ s
 rw [adjust_gen lo hi n]
 show wpAny _ _ (pure (((sIx n 0 lo:Nat):Int),(1:Int),Builtin.Slice.slicePlaces ((sIx n 0 lo:Nat):Int) ((sIx n n hi:Nat):Int) 1)) _ _ s
 rw [places_gen]
 exact wpAny_pure h
theorem pick_gen (xs:Array Value)(i k:Nat):((List.range k).filterMap fun (m:Nat)=>xs[((i:Int)+(m:Int)*1).toNat]?).toArray=((xs.toList.drop i).take k).toArray:=by
 have e:(fun (m:Nat)=>xs[((i:Int)+(m:Int)*1).toNat]?)=fun m=>xs[i+m]?:=by
  funext m
  have:((i:Int)+(m:Int)*1).toNat=i+m:=by omega
  rw [this]
 rw [e]
 have:=pick_run xs i k
 rw [List.filterMap_map] at this
 have e2:((fun x=>xs[x]?)∘fun x=>i+x)=fun m=>xs[i+m]?:=rfl
 rw [e2] at this
 rw [this]
theorem getItem_tuple_cut {t sl:Addr}{items:Array Value}{vl vu:Value}{lo hi:Option Int}{Q:Value->Shared->Prop}(ht:IsTup s.heap t items)(hs:s.heap.IsSliceOf sl vl vu .none)(pl:IsPart vl lo)(pu:IsPart vu hi)
  (hw:¬ (sIx items.size 0 lo=0∧sIx items.size items.size hi=items.size))
  (h:Q (.ref s.heap.objs.size) { s with heap:=s.heap.push { cls:=.type "tuple",data:=.seq ((items.toList.drop (sIx items.size 0 lo)).take (sIx items.size items.size hi-sIx items.size 0 lo)).toArray } })
  (hsz:items.size<=sizeLine):wpAny (model prog w) A (getItem (.ref t) (.ref sl)) Q E s:=by
 have htake:sizeOk (.seq ((items.toList.drop (sIx items.size 0 lo)).take (sIx items.size items.size hi-sIx items.size 0 lo)).toArray):=by
  show ((items.toList.drop (sIx items.size 0 lo)).take (sIx items.size items.size hi-sIx items.size 0 lo)).toArray.size<=sizeLine
  rw [List.size_toArray,List.length_take,List.length_drop,Array.length_toList]
  omega
 have hj:sIx items.size items.size hi<=items.size:=sIx_le _ _ (Nat.le_refl _) hi
 obtain ⟨os,hos,hcs,hds⟩:=id hs
 have hTs:s.TypeIs (.ref sl) "slice" := ⟨os,hos,hcs⟩
 unfold getItem
 try with_reducible refine wpAny_holding ?_
 first | refine wpAny_bind (wpAny_pure ?_) | skip
 refine wpAny_bind (wpAny_sequenceKey ht.typeIs (by decide) ?_)
 refine wpAny_bind (wpAny_callSpecial?_slot (name:=Str.ofString "__getitem__") ht.typeIs PyProof.Rows.slot_tuple_getitem
  (wpAny_call_entry PyProof.Rows.slot_tuple_getitem ht.typeIs entry_tuple_getitem ?_ (args_tuple_getitem _ _)))
 show wpAny _ _ (Builtin.Tuple.tupleItemsOf (.ref t) >>= _) _ _ s
 refine wpAny_bind (tupleItemsOf_ ht ?_)
 refine wpAny_bind (wpAny_typeOf hTs ?_)
 rw [if_pos (by decide)]
 refine wpAny_bind (sliceApplied_gen hs pl pu ?_)
 have hno:¬ ((((sIx items.size 0 lo:Nat):Int)==0&&(1:Int)==1&&(sIx items.size items.size hi-sIx items.size 0 lo)==items.size)=true):=by
  intro q
  rw [Bool.and_eq_true,Bool.and_eq_true] at q
  have q1:((sIx items.size 0 lo:Nat):Int)=0:=eq_of_beq q.1.1
  have q2:sIx items.size items.size hi-sIx items.size 0 lo=items.size:=eq_of_beq q.2
  exact hw ⟨by omega,by omega⟩
 show wpAny _ _ (if (((sIx items.size 0 lo:Nat):Int)==0&&(1:Int)==1&&(sIx items.size items.size hi-sIx items.size 0 lo)==items.size)=true then _ else _) _ _ s
 rw [if_neg hno,pick_gen]
 first
  | exact wpAny_bind (m:=Builtin.Tuple.tupleExact _) (wpAny_newObj_type (wpAny_pure ⟨_,rfl,wpAny_pure h⟩) htake)
  | exact wpAny_bind (m:=Builtin.Tuple.tupleExact _) (wpAny_newObj_type (wpAny_bind (wpAny_pure (wpAny_pure ⟨_,rfl,wpAny_pure h⟩))) htake)
  | exact wpAny_bind (wpAny_bind (m:=Builtin.Tuple.tupleExact _) (wpAny_newObj_type (wpAny_pure (wpAny_pure ⟨_,rfl,wpAny_pure h⟩)) htake))
  | exact wpAny_bind (wpAny_bind (m:=Builtin.Tuple.tupleExact _) (wpAny_newObj_type (wpAny_pure ⟨_,rfl,wpAny_pure h⟩) htake))
end
end HT
namespace L2
open PySem PySem.Spec PyProof.Rows
abbrev TO:=St->Hp->(Option Int->Hp->Prop)->Prop
def PO (X:Cx)(e:Option Expr)(t:TO):Prop :=
 ∀ (pins:List (Addr×Obj)) (s:Shared) (σ:St) (H:Hp) (Q:Option Int->Hp->Prop),Inv X pins σ H s->t σ H Q ->
  wpAny (model X.prog X.w) X.A (evalPart e X.env) (fun u s'=>∃ o H',Inv X pins σ H' s'∧IsPart u o∧Q o H') X.xe s
def tNoPart:TO:=fun _ H Q=>Q none H
def tPart (t:TE):TO:=fun σ H Q=>t σ H fun x H1=>∃ i,x = .int i∧Q (some i) H1
theorem intsAre_of {ns:List Int}:∀ {us:List Value},Vals (ns.map V.int) us->IntsAre us ns:=by
 induction ns with
 | nil=>intro us r;rw [List.map_nil] at r;cases r;exact .nil
 | cons n ns ih =>
  intro us r
  rw [List.map_cons] at r
  cases r with
  | cons r1 r2 =>
   obtain ⟨t,e⟩:=r1
   subst e
   exact .cons n t (ih r2)
section
variable {X:Cx}{e:Expr}{te:TE}{lo hi:Option Expr}{tl th:TO}{pos p2:Pos}
theorem po_none:PO X none tNoPart:=by
 intro pins s σ H Q I h
 rw [evalPart_none]
 exact wpAny_pure ⟨none,H,I,.none,h⟩
theorem po_some (h:PE X e te):PO X (some e) (tPart te):=by
 intro pins s σ H Q I hw
 rw [evalPart_some]
 refine thn (h pins s σ H _ I hw) fun u s1 ⟨x,H1,I1,r1,q1⟩=>?_
 obtain ⟨i,rfl,q⟩:=q1
 obtain ⟨t,rfl⟩:=r1
 exact ⟨some i,H1,I1,.int i t,q⟩
def SlR (X:Cx)(r:V->Option Int->Option Int->Hp->VK->Prop):Prop :=
 ∀ (pins:List (Addr×Obj)) (s:Shared) (σ:St) (H:Hp) (x:V) (v vl vu:Value) (lo hi:Option Int) (sl:Addr) (Q:VK),Inv X pins σ H s->RelV x v->s.heap.IsSliceOf sl vl vu .none->IsPart vl lo->IsPart vu hi->r x lo hi H Q ->
  ∃ T id,typeLookup (.type T) "__getitem__" = pure (some (.builtin id))∧s.TypeIs v T∧wpAny (model X.prog X.w) X.A (getItem v (.ref sl)) (EP X pins σ Q) X.xe s
def tSl (r:V->Option Int->Option Int->Hp->VK->Prop)(te:TE)(tl th:TO):TE:=fun σ H Q=>te σ H fun x H1=>tl σ H1 fun l H2=>th σ H2 fun u H3=>r x l u H3 Q
theorem pe_slice {r:V->Option Int->Option Int->Hp->VK->Prop}(hr:SlR X r)(he:PE X e te)(hl:PO X lo tl)(hu:PO X hi th):PE X (.Subscript e (.Slice lo hi none p2) pos) (tSl r te tl th):=by
 intro pins s σ H Q I h
 refine Subscript_ (thn (he pins s σ H _ I h) fun v s1 ⟨x,H1,I1,r1,q1⟩=>?_)
 refine wpAny_Slice (thn (hl pins s1 σ H1 _ I1 q1) fun vl s2 ⟨l,H2,I2,pl,q2⟩=>thn (hu pins s2 σ H2 _ I2 q2) fun vu s3 ⟨u,H3,I3,pu,q3⟩=>?_)
 rw [evalPart_none]
 refine wpAny_pure ?_
 have I4:Inv X pins σ H3 { s3 with heap:=s3.heap.push { cls:=.type "slice",data:=.fields #[vl,vu,.none] } }:=I3.kept (t':=s3.toks) fun b ob q=>Heap.get?_push_of_some _ q
 obtain ⟨T,id,hT,ht,hg⟩:=hr pins { s3 with heap:=s3.heap.push { cls:=.type "slice",data:=.fields #[vl,vu,.none] } } σ H3 x v vl vu l u s3.heap.objs.size Q I4 r1 (Heap.IsSliceOf.new ..) pl pu q3
 show wpAny (model X.prog X.w) X.A (subscriptTail e (.Slice lo hi none p2) v (.ref s3.heap.objs.size)) (EP X pins σ Q) X.xe { s3 with heap:=s3.heap.push { cls:=.type "slice",data:=.fields #[vl,vu,.none] } }
 exact tail_any (ops:=[.ref s3.heap.objs.size,v]) ht hT hg (by with_unfolding_all rfl)
def cutV (xs:List V)(lo hi:Option Int):List V:=(xs.drop (HT.sIx xs.length 0 lo)).take (HT.sIx xs.length xs.length hi-HT.sIx xs.length 0 lo)
theorem cutV_length (xs:List V)(lo hi:Option Int):(cutV xs lo hi).length<=xs.length:=by
 unfold cutV
 rw [List.length_take,List.length_drop]
 omega
def rSlT (K:PySem.W.Frag):V->Option Int->Option Int->Hp->VK->Prop:=fun x lo hi H Q=>∃ a xs,x = .ref a∧SqT K H a xs ∧
 ¬ (HT.sIx xs.length 0 lo=0∧HT.sIx xs.length xs.length hi=xs.length)∧∀ p,H p=none->Q (.ref p) (upd H p (.tup (cutV xs lo hi)))
theorem sl_tup:SlR X (rSlT X.K):=by
 intro pins s σ H x v vl vu lo hi sl Q I rx hs pl pu h
 obtain ⟨a,xs,rfl,hx,hw,q⟩:=h
 cases rx
 obtain ⟨its,r,ht,hz⟩:=I.tuple hx
 have hlen:its.toArray.size=xs.length:=by rw [List.size_toArray];exact r.length.symm
 refine ⟨"tuple",_,PyProof.Rows.slot_tuple_getitem.lookup,ht.typeIs,?_⟩
 refine HT.getItem_tuple_cut ht hs pl pu (by rw [hlen];exact hw) ?_ (by rw [hlen];exact hz)
 rw [hlen]
 refine ⟨.ref s.heap.objs.size,_,I.laid (t':=s.toks) (o:=.tup (cutV xs lo hi)) (fun b ob q=>Heap.get?_push_of_some _ q) (Nat.le_refl _) ?_,rfl,q _ (I.hok.fresh (Nat.le_refl _))⟩
 exact ⟨Nat.le_trans (cutV_length xs lo hi) hz,_,(r.drop (HT.sIx xs.length 0 lo)).take (HT.sIx xs.length xs.length hi-HT.sIx xs.length 0 lo),IsTup.new _ _⟩
end
end L2
namespace L2
open PySem PySem.Spec PyProof.Rows
def ixN (n:Nat)(i:Int):Option Nat:=if 0<=i then (if i<n then some i.toNat else none) else if -(n:Int)<=i then some (i+n).toNat else none
def atI {α:Type}(xs:List α)(i:Int):Option α:=(ixN xs.length i).bind fun j=>xs[j]?
theorem ixN_seq {n:Nat}{i:Int}{j:Nat}(h:ixN n i=some j):seqIndex? i n=some j∧j<n∧-(n:Int)<=i∧i<n:=by
 unfold ixN at h
 by_cases h0:0<=i
 ·rw [if_pos h0] at h
  by_cases h1:i<n
  ·rw [if_pos h1] at h
   have e:i.toNat=j:=Option.some.inj h
   exact ⟨by rw [seqIndex_of h0 h1,e],by omega,by omega,h1⟩
  ·rw [if_neg h1] at h;cases h
 ·rw [if_neg h0] at h
  by_cases h1 : -(n:Int)<=i
  ·rw [if_pos h1] at h
   have e:(i+n).toNat=j:=Option.some.inj h
   exact ⟨by rw [seqIndex_neg (by omega) h1,e],by omega,h1,by omega⟩
  ·rw [if_neg h1] at h;cases h
theorem atI_get {α:Type}{xs:List α}{i:Int}{v:α}(h:atI xs i=some v):∃ j,seqIndex? i xs.length=some j∧xs[j]?=some v∧j<xs.length∧-(xs.length:Int)<=i∧i<xs.length:=by
 unfold atI at h
 cases e:ixN xs.length i with
 | none=>rw [e] at h;cases h
 | some j =>
  rw [e] at h
  obtain ⟨h1,h2,h3,h4⟩:=ixN_seq e
  exact ⟨j,h1,h,h2,h3,h4⟩
theorem atI_nat {α:Type}{xs:List α}{j:Nat}{v:α}(h:xs[j]?=some v):atI xs (j:Int)=some v:=by
 have hj:j<xs.length:=(List.getElem?_eq_some_iff.mp h).1
 have e:ixN xs.length (j:Int)=some j:=by
  unfold ixN
  rw [if_pos (by omega),if_pos (by omega)];simp
 unfold atI;rw [e];exact h
def PlainIx (b:Expr):Prop:=∀ o i,subscripted b false o i=operate [o,i] (getItem o i)
def IxR (X:Cx)(r:R2):Prop :=
 ∀ (value slice:Expr) (pins:List (Addr×Obj)) (s:Shared) (σ:St) (H:Hp) (x y:V) (v u:Value) (Q:VK),Inv X pins σ H s->RelV x v->RelV y u->r x y H Q ->
  subscripted slice false v u=operate [v,u] (getItem v u)->wpAny (model X.prog X.w) X.A (subscriptTail value slice v u) (EP X pins σ Q) X.xe s
def MtR (X:Cx)(id:String)(r:V->List V->Hp->VK->Prop):Prop :=
 ∀ (pins:List (Addr×Obj)) (s:Shared) (σ:St) (H:Hp) (x:V) (xs:List V) (v:Value) (us:List Value) (Q:VK),Inv X pins σ H s->RelV x v->Vals xs us->r x xs H Q ->
  wpAny (model X.prog X.w) X.A (call (.builtin id) (v::us)) (EP X pins σ Q) X.xe s
section
variable {X:Cx}{a b:Expr}{ta tb:TE}{pos:Pos}
theorem pe_ix {r:R2}(hr:IxR X r)(ha:PE X a ta)(hb:PE X b tb)(hs:PlainIx b):PE X (.Subscript a b pos) (tOp r ta tb):=by
 intro pins s σ H Q I h
 exact Subscript_ (binT ha hb I h fun v u s2 x y H2 I2 rx ry q=>hr a b pins s2 σ H2 x y v u Q I2 rx ry q (hs _ _))
def rIxL (K:PySem.W.Frag):R2:=fun x y H Q=>∃ p xs i v,x = .ref p∧y = .int i∧SqL K H p xs∧atI xs i=some v∧Q v H
def rIxT (K:PySem.W.Frag):R2:=fun x y H Q=>∃ p xs i v,x = .ref p∧y = .int i∧SqT K H p xs∧atI xs i=some v∧Q v H
def rIxS:R2:=fun x y H Q=>∃ z i c,x = .str z∧y = .int i∧z.length<=sizeLine∧atI z.cps.toList i=some c∧Q (.str ⟨#[c]⟩) H
theorem ix_list:IxR X (rIxL X.K):=by
 intro value slice pins s σ H x y v u Q I rx ry h hs
 obtain ⟨p,xs,i,z,rfl,rfl,hq,he,q⟩:=h
 cases rx
 obtain ⟨t,rfl⟩:=ry
 obtain ⟨its,r,pl,hz⟩:=I.list hq
 obtain ⟨j,h1,h2,h3,h4,h5⟩:=atI_get he
 obtain ⟨w,ew,rw'⟩:=r.get h2
 have hl:=r.length
 have hn:=line63
 have fin:EP X pins σ Q w s:=⟨z,H,I,rw',q⟩
 by_cases h0:0<=i
 ·have hj:i.toNat=j:=by
   rw [seqIndex_of h0 h5] at h1
   exact Option.some.inj h1
  exact item_listR pl.isList h0 (by omega) (by rw [hj];simpa using ew) fin hs
 ·have hj:(i+(its.toArray.size:Int)).toNat=j:=by
   rw [seqIndex_neg (by omega) h4] at h1
   rw [List.size_toArray,<- hl]
   exact Option.some.inj h1
  exact subscriptTail_builtinR (x:=w) pl.isList.typeIs slot_list_getitem.lookup
   (wpAny_getItem_list_neg (Q:=fun r s'=>r=w∧EP X pins σ Q r s') pl.isList (by omega) (by rw [List.size_toArray] <;> omega) (by omega) (by rw [hj];simpa using ew) ⟨rfl,fin⟩) hs
theorem ix_tup:IxR X (rIxT X.K):=by
 intro value slice pins s σ H x y v u Q I rx ry h hs
 obtain ⟨p,xs,i,z,rfl,rfl,hq,he,q⟩:=h
 cases rx
 obtain ⟨t,rfl⟩:=ry
 obtain ⟨its,r,pl,hz⟩:=I.tuple hq
 obtain ⟨j,h1,h2,h3,h4,h5⟩:=atI_get he
 obtain ⟨w,ew,rw'⟩:=r.get h2
 have hl:=r.length
 have hn:=line63
 have fin:EP X pins σ Q w s:=⟨z,H,I,rw',q⟩
 exact subscriptTail_builtinR (x:=w) pl.typeIs slot_tuple_getitem.lookup
  (getItem_tuple (j:=j) (Q:=fun r s'=>r=w∧EP X pins σ Q r s') pl (by omega) (by omega) (by rw [List.size_toArray,<- hl];exact h1) (by simpa using ew) ⟨rfl,fin⟩) hs
theorem ix_str:IxR X rIxS:=by
 intro value slice pins s σ H x y v u Q I rx ry h hs
 obtain ⟨z,i,c,rfl,rfl,hz,he,q⟩:=h
 obtain ⟨t,rfl⟩:=rx
 obtain ⟨t',rfl⟩:=ry
 obtain ⟨j,h1,h2,h3,h4,h5⟩:=atI_get he
 have hl:z.cps.toList.length=z.length:=by simp [Str.length]
 rw [hl] at h1 h4 h5
 have hn:=line63
 exact tail_any (typeIs_str s z t) slot_str_getitem.lookup (getItem_str (c:=c) (by
  have e1:decide (i < -(2 ^ 63:Int))=false:=decide_eq_false (by omega)
  have e2:decide (i≥2 ^ 63)=false:=decide_eq_false (by omega)
  rw [e1,e2,Bool.or_false]) (by rw [h1];simpa using h2) ⟨.str ⟨#[c]⟩,H,I.tok _,⟨_,rfl⟩,q⟩) hs
theorem slice_bounds (lo hi:Option Int)(n:Nat):(sliceBounds lo hi none n).1=((HT.sIx n 0 lo:Nat):Int)∧(sliceBounds lo hi none n).2.1=((HT.sIx n n hi:Nat):Int)∧(sliceBounds lo hi none n).2.2=1:=by
 refine ⟨?_,?_,rfl⟩
 ·cases lo with
  | none=>simp [sliceBounds,HT.sIx]
  | some i =>
   simp only [sliceBounds,HT.sIx,Option.getD_none,show (1:Int)>0 by decide,if_true]
   by_cases h:i<0
   ·simp only [h,if_true] <;> omega
   ·simp only [h,if_false] <;> omega
 ·cases hi with
  | none=>simp [sliceBounds,HT.sIx]
  | some i =>
   simp only [sliceBounds,HT.sIx,Option.getD_none,show (1:Int)>0 by decide,if_true]
   by_cases h:i<0
   ·simp only [h,if_true] <;> omega
   ·simp only [h,if_false] <;> omega
theorem slicePick_cut (its:List Value)(lo hi:Option Int):slicePick its.toArray lo hi none=((its.drop (HT.sIx its.length 0 lo)).take (HT.sIx its.length its.length hi-HT.sIx its.length 0 lo)).toArray:=by
 obtain ⟨h1,h2,h3⟩:=slice_bounds lo hi its.toArray.size
 unfold slicePick
 rw [h1,h2,h3]
 simp only [sliceRange_one,pick_run,List.size_toArray] <;> rfl
def rSlL (K:PySem.W.Frag):V->Option Int->Option Int->Hp->VK->Prop:=fun x lo hi H Q=>∃ a xs,x = .ref a∧SqL K H a xs∧∀ p,H p=none->Q (.ref p) (upd H p (.lst (cutV xs lo hi)))
theorem sl_list:SlR X (rSlL X.K):=by
 intro pins s σ H x v vl vu lo hi sl Q I rx hs pl pu h
 obtain ⟨a,xs,rfl,hx,q⟩:=h
 cases rx
 obtain ⟨its,r,ht,hz⟩:=I.list hx
 have hlen:=r.length
 refine ⟨"list",_,slot_list_getitem.lookup,ht.isList.typeIs,?_⟩
 refine wpAny_getItem_list_slice ht.isList hs pl pu .none (by simp) ?_ (by rw [List.size_toArray] <;> omega)
 rw [slicePick_cut,<- hlen]
 refine ⟨.ref s.heap.objs.size,_,I.laid (t':=s.toks) (o:=.lst (cutV xs lo hi)) (fun b ob q=>Heap.get?_push_of_some _ q) (Nat.le_refl _) ?_,rfl,q _ (I.hok.fresh (Nat.le_refl _))⟩
 exact ⟨Nat.le_trans (cutV_length xs lo hi) hz,_,0,(r.drop (HT.sIx xs.length 0 lo)).take (HT.sIx xs.length xs.length hi-HT.sIx xs.length 0 lo),Heap.get?_push_size _ rfl⟩
def flatV:V->Bool
 | .non=>true
 | .bl _=>true
 | .int _=>true
 | .str _=>true
 | _=>false
def eqV:V->V->Bool
 | .non,.non=>true
 | .bl a,.bl b=>a==b
 | .bl a,.int b=>(if a then 1 else 0)==b
 | .int a,.bl b=>a==(if b then 1 else 0)
 | .int a,.int b=>a==b
 | .str a,.str b=>a==b
 | _,_=>false
theorem eqAt_V {A:Around}{s:Shared}{y x:V}{u v:Value}(ry:RelV y u)(rx:RelV x v)(fy:flatV y=true)(fx:flatV x=true):SeqAt.EqAt A s u v (eqV y x):=by
 cases y with
 | non =>
  cases ry
  cases x with
  | non=>cases rx;exact SeqAt.EqAt.same _
  | bl b=>cases rx;exact SeqAt.EqAt.none_bool b
  | int b=>obtain ⟨t,rfl⟩:=rx;exact SeqAt.EqAt.none_int b t
  | str b=>obtain ⟨t,rfl⟩:=rx;exact SeqAt.EqAt.none_str b t
  | _=>exact absurd (show false=true from fx) Bool.false_ne_true
 | bl a =>
  cases ry
  cases x with
  | non=>cases rx;exact SeqAt.EqAt.bool_none a
  | bl b=>cases rx;exact SeqAt.EqAt.bool_bool a b
  | int b=>obtain ⟨t,rfl⟩:=rx;exact SeqAt.EqAt.bool_int a b t
  | str b=>obtain ⟨t,rfl⟩:=rx;exact SeqAt.EqAt.bool_str a b t
  | _=>exact absurd (show false=true from fx) Bool.false_ne_true
 | int a =>
  obtain ⟨t',rfl⟩:=ry
  cases x with
  | non=>cases rx;exact SeqAt.EqAt.int_none a t'
  | bl b=>cases rx;exact SeqAt.EqAt.int_bool a t' b
  | int b=>obtain ⟨t,rfl⟩:=rx;exact SeqAt.EqAt.int_int a t' b t
  | str b=>obtain ⟨t,rfl⟩:=rx;exact SeqAt.EqAt.int_str a t' b t
  | _=>exact absurd (show false=true from fx) Bool.false_ne_true
 | str a =>
  obtain ⟨t',rfl⟩:=ry
  cases x with
  | non=>cases rx;exact SeqAt.EqAt.str_none a t'
  | bl b=>cases rx;exact SeqAt.EqAt.str_bool a t' b
  | int b=>obtain ⟨t,rfl⟩:=rx;exact SeqAt.EqAt.str_int a t' b t
  | str b=>obtain ⟨t,rfl⟩:=rx;exact SeqAt.EqAt.str_str a t' b t
  | _=>exact absurd (show false=true from fx) Bool.false_ne_true
 | _=>exact absurd (show false=true from fy) Bool.false_ne_true
def eqU (x:V)(u:Value):Bool:=match u with
 | .none=>eqV .non x
 | .bool b=>eqV (.bl b) x
 | .int i _=>eqV (.int i) x
 | .str z _=>eqV (.str z) x
 | _=>false
theorem eqU_of {x y:V}{u:Value}(r:RelV y u)(f:flatV y=true):eqU x u=eqV y x:=by
 cases y with
 | non=>cases r;rfl
 | bl b=>cases r;rfl
 | int i=>obtain ⟨t,rfl⟩:=r;rfl
 | str z=>obtain ⟨t,rfl⟩:=r;rfl
 | _=>exact absurd (show false=true from f) Bool.false_ne_true
theorem any_eqU {x:V}:∀ {xs:List V} {us:List Value},Vals xs us->xs.all flatV=true->us.any (eqU x)=xs.any fun y=>eqV y x
 | _,_,.nil,_=>rfl
 | y::xs,u::us,.cons r t,f=>by
  rw [List.all_cons,Bool.and_eq_true] at f
  rw [List.any_cons,List.any_cons,eqU_of r f.1,any_eqU t f.2]
theorem mem_eqAt {A:Around}{s:Shared}{x:V}{v:Value}(rx:RelV x v)(fx:flatV x=true):∀ {xs:List V} {us:List Value},Vals xs us->xs.all flatV=true->∀ u∈us,SeqAt.EqAt A s u v (eqU x u)
 | _,_,.nil,_=>fun u hu=>by cases hu
 | y::xs,u::us,.cons r t,f=>fun u' hu=>by
  rw [List.all_cons,Bool.and_eq_true] at f
  rcases List.mem_cons.mp hu with rfl | hu
  ·rw [eqU_of r f.1];exact eqAt_V r rx f.1 fx
  ·exact mem_eqAt rx fx t f.2 u' hu
def inV (x:V)(xs:List V):Bool:=xs.any fun y=>eqV y x
def rIn (K:PySem.W.Frag)(neg:Bool):R2:=fun x y H Q=>∃ p xs,y = .ref p∧(SqL K H p xs∨SqT K H p xs)∧flatV x=true∧xs.all flatV=true∧Q (.bl (if neg then !inV x xs else inV x xs)) H
theorem op_notIn_seq:OpR X (compareOp .NotIn) (rIn X.K true):=by
 intro pins s σ H x y v u Q I rx ry h
 obtain ⟨p,xs,rfl,hq,fx,fs,q⟩:=h
 cases ry
 rcases hq with hq | hq
 ·obtain ⟨its,r,pl,hz⟩:=I.list hq
  refine SeqAt.notIn_listAt (eqU x) pl.isList (fun w hw=>mem_eqAt rx fx r fs w (by simpa using hw)) ⟨.bl _,H,I,rfl,?_⟩
  rw [show its.toArray.any (eqU x)=its.any (eqU x) by simp,any_eqU r fs]
  exact q
 ·obtain ⟨its,r,pl,hz⟩:=I.tuple hq
  refine SeqAt.notIn_tupleAt (eqU x) pl (fun w hw=>mem_eqAt rx fx r fs w (by simpa using hw)) ⟨.bl _,H,I,rfl,?_⟩
  rw [show its.toArray.any (eqU x)=its.any (eqU x) by simp,any_eqU r fs]
  exact q
theorem call_len_seq:CallR X (.builtin "len") (fun xs H Q=>∃ p ys,xs=[.ref p]∧(SqL X.K H p ys∨SqT X.K H p ys)∧Q (.int ys.length) H):=by
 intro pins s σ H xs us Q I r h
 obtain ⟨p,ys,rfl,hq,q⟩:=h
 obtain ⟨u,rfl,rx⟩:=vals1 r
 cases rx
 have hn:=line63
 rcases hq with hq | hq
 ·obtain ⟨its,r',pl,hz⟩:=I.list hq
  have hlen:=r'.length
  exact Calls.call_len_list pl.isList (by simp only [List.size_toArray] <;> omega) ⟨.int ys.length,H,I.tok _,⟨s.toks+1,by rw [List.size_toArray,hlen]⟩,q⟩
 ·obtain ⟨its,r',pl,hz⟩:=I.tuple hq
  have hlen:=r'.length
  exact len_tuple pl (by simp only [List.size_toArray] <;> omega) ⟨.int ys.length,H,I.tok _,⟨s.toks+1,by rw [List.size_toArray,hlen]⟩,q⟩
theorem call_len_str:CallR X (.builtin "len") (fun xs H Q=>∃ z,xs=[.str z]∧z.length<=sizeLine∧Q (.int z.length) H):=by
 intro pins s σ H xs us Q I r h
 obtain ⟨z,rfl,hz,q⟩:=h
 obtain ⟨u,rfl,t,rfl⟩:=vals1 r
 have hn:=line63
 exact len_str (by omega) ⟨.int z.length,H,I.tok _,⟨_,rfl⟩,q⟩
theorem call_list_of:CallR X (.type "list") (fun xs H Q=>∃ p ys,xs=[.ref p]∧(SqL X.K H p ys∨SqT X.K H p ys)∧∀ l,H l=none->Q (.ref l) (upd H l (.lst ys))):=by
 intro pins s σ H xs us Q I r h
 obtain ⟨p,ys,rfl,hq,q⟩:=h
 obtain ⟨u,rfl,rx⟩:=vals1 r
 cases rx
 have fin:∀ (its:List Value),Vals ys its->ys.length<=sizeLine->∀ (h':Heap) (c':Nat),(∀ b o',s.heap.get? b=some o'->h'.get? b=some o') ->
   h'.get? s.heap.objs.size=some { cls:=.type "list",dict:=none,data:=.seq its.toArray c',slots:=#[] }->EP X pins σ Q (.ref s.heap.objs.size) { s with heap:=h' }:=fun its r' hz h' c' kp e =>
  ⟨.ref s.heap.objs.size,_,I.laid (t':=s.toks) kp (Nat.le_refl _) (show ObjOk X.prog X.w _ h' _ (.lst ys) from ⟨hz,its,c',r',e⟩),rfl,q _ (I.hok.fresh (Nat.le_refl _))⟩
 rcases hq with hq | hq
 ·obtain ⟨its,r',pl,hz⟩:=I.list hq
  have hlen:=r'.length
  obtain ⟨o,ho,hc,n,hd⟩:=pl.isList
  exact call_list_seq p (.inl rfl) ho hc hd (fun h' c' kp e=>fin its r' hz h' c' kp e) (by simp only [List.size_toArray] <;> omega)
 ·obtain ⟨its,r',pl,hz⟩:=I.tuple hq
  have hlen:=r'.length
  obtain ⟨o,ho,hc,n,hd⟩:=pl
  exact call_list_seq p (.inr rfl) ho hc hd (fun h' c' kp e=>fin its r' hz h' c' kp e) (by simp only [List.size_toArray] <;> omega)
theorem call_tuple_of:CallR X (.type "tuple") (fun xs H Q=>∃ p ys,xs=[.ref p]∧((SqL X.K H p ys∧∀ l,H l=none->Q (.ref l) (upd H l (.tup ys)))∨(SqT X.K H p ys∧Q (.ref p) H))):=by
 intro pins s σ H xs us Q I r h
 obtain ⟨p,ys,rfl,h⟩:=h
 obtain ⟨u,rfl,rx⟩:=vals1 r
 cases rx
 rcases h with ⟨hq,q⟩ | ⟨hq,q⟩
 ·obtain ⟨its,r',pl,hz⟩:=I.list hq
  have hlen:=r'.length
  refine call_tuple_list pl.isList (fun h' kp=>?_) (by simp only [List.size_toArray] <;> omega)
  have I1:Inv X pins σ H { s with heap:=h' }:=I.kept (t':=s.toks) kp
  have I2:Inv X pins σ (upd H h'.objs.size (.tup ys)) { s with heap:=h'.push { cls:=.type "tuple",data:=.seq its.toArray } } :=
   I1.laid (t':=s.toks) (fun b o e=>Heap.get?_push_of_some _ e) (Nat.le_refl _) (show ObjOk X.prog X.w _ _ _ (.tup ys) from ⟨hz,its,r',IsTup.new _ _⟩)
  exact ⟨.ref h'.objs.size,_,I2,rfl,q _ (I1.hok.fresh (Nat.le_refl _))⟩
 ·obtain ⟨its,r',pl,hz⟩:=I.tuple hq
  exact call_tuple_same pl ⟨.ref p,H,I,rfl,q⟩
def tyV (K:PySem.W.Frag)(T:String)(x:V)(H:Hp):Prop:=match x with
 | .str _=>T = "str"
 | .int _=>T = "int"
 | .ref p=>(T = "list" ∧ ∃ xs,SqL K H p xs)∨(T = "tuple" ∧ ∃ o,K.lookup p=some o∧o.cls = .type "tuple" ∧ o.dict=none) ∨
  (T = "dict" ∧ ((∃ kvs,H p=some (.dK kvs))∨∃ kvs,H p=some (.dT kvs)))∨(T = "set" ∧ ∃ S n,H p=some (.set S n))
 | _=>False
theorem tyV_is {pins:List (Addr×Obj)}{σ:St}{H:Hp}{s:Shared}{T:String}{x:V}{v:Value}(I:Inv X pins σ H s)(r:RelV x v)(ty:tyV X.K T x H) :
  s.TypeIs v T∧∀ a,v = .ref a->∃ ob,s.heap.get? a=some ob∧ob.dict=none:=by
 cases x with
 | str z =>
  obtain ⟨t,rfl⟩:=r
  cases (show T = "str" from ty)
  exact ⟨typeIs_str s z t,fun _ e=>nomatch e⟩
 | int i =>
  obtain ⟨t,rfl⟩:=r
  cases (show T = "int" from ty)
  exact ⟨typeIs_int s i t,fun _ e=>nomatch e⟩
 | ref p =>
  cases r
  rcases ty with ⟨rfl,xs,hq⟩ | ⟨rfl,o,hk,hc,hd⟩ | ⟨rfl,hk⟩ | ⟨rfl,S,n,hk⟩
  ·obtain ⟨its,_,pl,_⟩:=I.list hq
   refine ⟨pl.isList.typeIs,fun a e=>?_⟩
   cases e
   obtain ⟨o,n,e,c,hd,_⟩:=pl
   exact ⟨o,e,hd⟩
  ·refine ⟨⟨o,I.kIn p o hk,hc⟩,fun a e=>?_⟩
   cases e
   exact ⟨o,I.kIn _ o hk,hd⟩
  ·have z:∃ o,s.heap.get? p=some o∧o.ExactDict:=by
    rcases hk with ⟨kvs,hk⟩ | ⟨kvs,hk⟩
    ·obtain ⟨_,_,_,_,o,_,_,e,ex,_⟩:=I.hok p _ hk
     exact ⟨o,e,ex⟩
    ·obtain ⟨_,_,_,_,o,_,_,e,ex,_⟩:=I.hok p _ hk
     exact ⟨o,e,ex⟩
   obtain ⟨o,e,ex⟩:=z
   refine ⟨⟨o,e,ex.1⟩,fun a e2=>?_⟩
   cases e2
   exact ⟨o,e,ex.2.1⟩
  ·obtain ⟨o,_,_,_,e,ex,_⟩:=I.hok p _ hk
   refine ⟨⟨o,e,ex.1⟩,fun a e2=>?_⟩
   cases e2
   exact ⟨o,e,ex.2.1⟩
 | _=>exact False.elim ty
def tBM (K:PySem.W.Frag)(T:String)(r:V->List V->Hp->VK->Prop)(to:TE)(t:TA):TE:=fun σ H Q=>to σ H fun x H1=>tyV K T x H1∧t σ H1 fun xs H2=>r x xs H2 Q
variable {o e:Expr}{es:List Expr}{to:TE}{t:TA}{name:Str}{apos cpos:Pos}{T id:String}{r:V->List V->Hp->VK->Prop}
theorem pe_bm (pa:PlainAttrs T)(slot:Slot T name id)(hty:typeOf (.builtin id)=pure (.type "method_descriptor"))(hm:MtR X id r)(ho:PE X o to)(ha:PA X (e::es) t)
  (hbase:attributeBase o name X.env (eval o X.env)=eval o X.env:=by rfl)
  (hfew:((backTo cpos (starEach (e::es) X.env)).all (fun x=>!x.1)&&(backToKw cpos (keywordEach [] X.env)).all (fun x=>x.1.isSome)
   && decide ((e::es).length+([]:List Keyword).length+(if ([]:List Keyword).isEmpty then 0 else 1)<30))=true:=by rfl)
  (hline:(apos.endLine==cpos.line)=true:=by rfl) (hs:starEach (e::es) X.env=(false,eval e X.env)::starEach es X.env:=by rfl) (hplain:(backTo cpos (starEach es X.env)).any (·.1)=false:=by rfl) :
  PE X (.Call (.Attribute o name apos) (e::es) [] cpos) (tBM X.K T r to t):=by
 intro pins s σ H Q I h
 refine wpAny_Call_method_late hbase hfew hline rfl (thn (ho pins s σ H _ I h) fun v s1 ⟨x,H1,I1,r1,ty,q1⟩=>?_)
 obtain ⟨h1,h2⟩:=tyV_is I1 r1 ty
 refine ⟨T,id,pa,slot,hty,h1,h2,?_⟩
 have hA:=ha cpos pins s1 σ H1 _ I1 q1
 rw [hs] at hA ⊢
 refine Calls.callWith_builtin (by show (false||(backTo cpos (starEach es X.env)).any (·.1))=false;rw [hplain] <;> rfl) (Calls.evalArgs_plain ?_)
 exact thn hA fun us s2 ⟨vs,H2,I2,r2,q2⟩=>hm pins s2 σ H2 x vs v us Q I2 r1 r2 q2
end
end L2
namespace L2
open PySem PySem.Spec PyProof.Rows
def MtM (X:Cx)(id:String)(r:V->List V->Hp->VK->Prop):Prop :=
 ∀ (pins:List (Addr×Obj)) (s:Shared) (σ:St) (H:Hp) (x:V) (xs:List V) (v:Value) (us:List Value) (Q:VK),Inv X pins σ H s->RelV x v->Vals xs us->r x xs H Q ->
  wpAny (model X.prog X.w) X.A (call (.builtin id) (v::us)) (EP X pins σ Q) X.xe s
theorem Vals.one:∀ {x:V} {us:List Value},Vals [x] us->∃ u,us=[u]∧RelV x u
 | _,_,.cons r .nil=>⟨_,rfl,r⟩
section
variable {X:Cx}{pins:List (Addr×Obj)}{σ:St}{H:Hp}{s:Shared}{l b:Addr}{xs ys zs:List V}
theorem Inv.lset {its its':List Value}{n:Nat}{f:Array Value->Array Value}{t':Nat}(I:Inv X pins σ H s)(hH:H l=some (.lst xs))
  (e:s.heap.get? l=some { cls:=.type "list",data:=.seq its.toArray n }) (hf:f its.toArray=its'.toArray) (hv:Vals ys its') (hz:ys.length<=sizeLine) :
  Inv X pins σ (upd H l (.lst ys)) { s with heap:=s.heap.update l (Obj.mapSeq f),toks:=t' }:=by
 have q:=PySem.IsL.update e f
 rw [hf] at q
 refine I.write (x:=l) (e:=l) (by rw [hH];exact trivial) (.inl rfl) (fun b' u hb hu=>(Heap.get?_update_other s.heap (Obj.mapSeq f) (Ne.symm hb)).trans hu) ⟨_,q⟩ ?_
 exact ⟨hz,its',_,hv,q⟩
theorem Inv.lnew {its:List Value}{t':Nat}(I:Inv X pins σ H s)(hv:Vals ys its)(hz:ys.length<=sizeLine) :
  Inv X pins σ (upd H s.heap.objs.size (.lst ys)) { s with heap:=s.heap.push { cls:=.type "list",data:=.seq its.toArray },toks:=t' } :=
 I.laid (fun _ _ q=>Heap.get?_push_of_some _ q) (Nat.le_refl _) ⟨hz,its,0,hv,Heap.get?_push_size _ rfl⟩
theorem Inv.fresh (I:Inv X pins σ H s):H s.heap.objs.size=none:=I.hok.fresh (Nat.le_refl _)
theorem Inv.lstM (I:Inv X pins σ H s)(hH:H l=some (.lst xs)):xs.length<=sizeLine∧∃ (its:List Value) (n:Nat),Vals xs its∧xs.length=its.length∧s.heap.get? l=some { cls:=.type "list",data:=.seq its.toArray n }:=by
 obtain ⟨z,its,n,r,e⟩:=I.hok l _ hH
 exact ⟨z,its,n,r,r.length,e⟩
end
section
variable {X:Cx}
def rAppend:V->List V->Hp->VK->Prop:=fun x vs H Q=>∃ l xs y,x = .ref l∧vs=[y]∧H l=some (.lst xs)∧xs.length<sizeLine∧Q .non (upd H l (.lst (xs++[y])))
theorem mt_append:MtM X "list.append" rAppend:=by
 intro pins s σ H x vs v us Q I rx rv h
 obtain ⟨l,xs,y,rfl,rfl,hH,hz,q⟩:=h
 cases rx
 obtain ⟨u,rfl,ru⟩:=rv.one
 obtain ⟨z,its,n,r,hl,e⟩:=I.lstM hH
 refine call_meets F.slot_list_append ⟨_,e,rfl⟩ F.entry_list_append (F.args_list_append_2 _ _) (PySem.list_append l its.toArray n u (by rw [List.size_toArray];omega)) ⟨e,?_⟩
 refine ⟨.non,_,I.lset (its':=its++[u]) hH e (by simp) (r.append (.cons ru .nil)) ?_,rfl,q⟩
 rw [List.length_append,List.length_singleton]
 omega
end
section
variable {prog:Program}{w:World}{A:Around}{E:Value->Shared->Prop}{s:Shared}
end
section
variable {X:Cx}
end
end L2
namespace Att
open PySem PySem.W PySem.Calls PyProof.Rows
theorem ints_of_wellAll {P:Params}{h:Heap}:∀ (ns:List Int) (vs:List Value),WellAll P h vs (ns.map WData.int)->IntsAre vs ns:=by
 intro ns
 induction ns with
 | nil =>
  intro vs w
  rw [List.map_nil] at w
  cases w
  exact .nil
 | cons n ns ih =>
  intro vs w
  rw [List.map_cons] at w
  cases w with
  | cons a b =>
   cases a
   exact .cons _ _ (ih _ b)
theorem script_of {l:OpenLaw}{n:Nat}(hn:l.most=some n){P:Params}{h:Heap}{args:List WData}{vals:List Value}
  (hpre:l.row.toRowW.claim.pre args=true) (hwl:WellAll P h vals args) :
  ∃ a vs ns,vals=[Value.ref a]∧args=[WData.list (ns.map WData.int)]∧h.get? a=some { cls:=.type "list",data:=.seq vs.toArray }∧IntsAre vs ns∧ns.length<=n:=by
 have hsh:WShape.hasAll [] args [.list .int]=true:=(pre_splitW hpre).1
 have hc:l.pre.holds [] { args:=args }=true:=(pre_splitW hpre).2
 obtain ⟨d,r,rfl,h1,h2⟩:=hasAllW_cons hsh
 obtain rfl:=hasAllW_nil h2
 obtain ⟨xs,rfl,h3⟩:=hasW_list h1
 obtain ⟨ns,rfl⟩:=items_int h3
 have hlen:ns.length<=n:=by
  unfold OpenLaw.pre at hc
  have h4:(WTm.not (.lt (.lit (.int (n:Int))) (.len (.arg 0)))).holds [] { args:=[.list (ns.map .int)] }=true:=by
   have h4:=(holds_andW hc).1
   rw [hn] at h4
   exact h4
  have h5:=condW_of h4 (w_not (w_lt w_lit (w_len_list (w_arg rfl))))
  rw [List.length_map] at h5
  refine Nat.le_of_not_lt fun q=>?_
  have q':(n:Int)<((ns.length:Nat):Int):=by omega
  first
   | (rw [decide_eq_true q'] at h5;exact absurd h5 (by decide))
   | (simp at h5;omega)
 cases hwl with
 | cons w1 w2 =>
  cases w2
  cases w1 with
  | list ho hall=>exact ⟨_,_,ns,rfl,rfl,ho,ints_of_wellAll ns _ hall,hlen⟩
theorem post_true (l:OpenLaw)(args:List WData):l.row.toRowW.claim.post args (.bool true) args=true :=
 postW_of (r:=l.row.toRowW) (X:=(true==true))
  (show WShape.has [] (.bool true) .bool=true by first | rfl | decide | simp [WShape.has,WShape.arms,WShape.armsAll])
  (show (WTm.eq .res (.lit (.bool true))).value [] { args:=args,res:=some (.bool true),after:=args }=some (.bool (true==true)) from w_eq_bool (w_res rfl) w_lit) rfl
theorem attach_call {l:OpenLaw}{n:Nat}{q:Program}{loose:List Str}{XP:(Str->Option Value)->Heap->Prop}{YP:World->Heap->Prop}{d:DefRec}
  (hn:l.most=some n) (hdf:d.params.defaults=[])
  (call:∀ (w:World) (s₀ s₁:Shared) (mg mb:Str->Option Value) (fa:Addr) (o:Obj) (pm cd doc:Value) (a:Addr) (vs:List Value) (ns:List Int),
   Ground q loose [] XP w s₀ mg mb s₁.heap->YP w s₁.heap ->
   s₁.heap.get? fa=some o->o.data = .func (docDef d.name d.params d.body d.scope pm cd doc)->s₁.heap.CodeRec cd d.name->mg d.name=some (.ref fa) ->
   s₁.heap.get? a=some { cls:=.type "list",data:=.seq vs.toArray }->IntsAre vs ns->ns.length<=n->s₁.gens = #[] ->
   codeAny (model l.prog w) callerA (.call (.ref fa) ⟨[.ref a],[]⟩) (fun r s'=>r = .ok (.ret (.bool true))∧OldK s₁.heap s'.heap∧s'.os=s₁.os∧AllBare s'.gens) s₁) :
  WalkO q loose XP YP l.row.toRowW d [] (fun f vs=>PySem.call f vs):=by
 intro w s₀ s₁ mg mb G Y fa o pm cd doc dV kV ho hd hcd hD hmg hg args vals as hpre hlay hrd hwl hlo
 obtain rfl:dV = .none:=Dflts.none hD hdf
 obtain rfl:kV = .none:=Dflts.noKw hD
 obtain ⟨a,vs,ns,rfl,rfl,hobj,hints,hlen⟩:=script_of hn hpre hwl
 refine enter_call (codeAny_mono (call w s₀ s₁ mg mb fa o pm cd doc a vs ns G Y ho (fd_plain hd) hcd hmg hobj hints hlen hg) fun r s' hq=>?_)
 obtain ⟨rfl,h2,h3,h4⟩:=hq
 exact ⟨.inl ⟨.bool true,.bool true,[],rfl,fun _=>rfl,.bool true,post_true l _,fun _=>⟨List.Pairwise.nil,fun _ hm=>(nomatch hm)⟩⟩,h2,h3,h4⟩
section
variable {prog:Program}{w:World}{A:Around}{E:Value->Shared->Prop}{s:Shared}{K:Frag}
end
end Att
namespace L2
open PySem PySem.Spec PyProof.Rows
theorem vals_ints:∀ {vs:List Value} {ns:List Int},IntsAre vs ns->Vals (ns.map V.int) vs
 | _,_,.nil=>.nil
 | _,_,.cons n t h=>.cons ⟨t,rfl⟩ (vals_ints h)
def Only (H:Hp):Prop:=∀ b,H b=none∨∃ o xs,H b=some (.frz o (.lst xs))
theorem law_call {P:Program}{w:World}{K:PySem.W.Frag}{mg mb:Str->Option Value}{CX:CXT}{k:Nat}{fa a:Addr}{fd:FuncData}{x:Str}{sp:Sp}{s₁:Shared}{vs:List Value}{ns:List Int}
  (KX:K.In s₁.heap) (hns:s₁.heap.Ns mainGlobals mg) (hb:s₁.heap.Ns builtinsNs mb) (hbb:∀ x:Str,x ≠ "__name__" -> mb x=bootBuiltins x) (hlim:s₁.heap.NoLimit) (hg:s₁.gens = #[])
  (ha:s₁.heap.get? a=some { cls:=.type "list",data:=.seq vs.toArray }) (hi:IntsAre vs ns) (hl:ns.length<=sizeLine) (hr:Room k callerA)
  (F:∀ base:Heap,K.In base->base.Ns mainGlobals mg->FnOk P w K mg base CX k fa fd [x] sp) (hbind:∀ (s:Shared) (u:Value),BindsTo s fd ⟨[u],[]⟩ [(x,u)])
  (hsp:∀ H:Hp,Only H->SqL K H a (ns.map V.int)->sp [.ref a] H (fun v _=>v = .bl true) fun _ _ _=>False)
  (hCX:∀ H e s',CX [] H s₁ (fun _ _ _=>False) e s'->False) :
  codeAny (model P w) callerA (.call (.ref fa) ⟨[.ref a],[]⟩) (fun r s'=>r = .ok (.ret (.bool true))∧OldK s₁.heap s'.heap∧s'.os=s₁.os∧AllBare s'.gens) s₁:=by
 have rv:=vals_ints hi
 have lenV:=hi.length
 have core:∀ H:Hp,Only H->SqL K H a (ns.map V.int)->HOk P w H s₁.heap->(∀ b,H b≠none->b=a)->(H a≠none->K.lookup a=none) ->
   codeAny (model P w) callerA (.call (.ref fa) ⟨[.ref a],[]⟩) (fun r s'=>r = .ok (.ret (.bool true))∧OldK s₁.heap s'.heap∧s'.os=s₁.os∧AllBare s'.gens) s₁:=by
  intro H hO hS hok hA hK
  have base_of:∀ {b:Addr} {o:Obj},s₁.heap.get? b=some o->H b=none->(hidT s₁.heap H).get? b=some o:=fun e n=>hidT_get e n
  have noA:∀ {b:Addr} {o:Obj} {es:Array DictEntry} {ep:Nat},s₁.heap.get? b=some o->o.data = .dict es ep->H b=none:=fun {b o es ep} e d=>by
   cases q:H b with
   | none=>rfl
   | some u =>
    have e':b=a:=hA b (by rw [q];simp)
    subst e'
    rw [ha] at e;cases e
    have d':Data.seq vs.toArray _=Data.dict es ep:=d
    cases d'
  have nsK:∀ {b:Addr} {m:Str->Option Value},s₁.heap.Ns b m->(hidT s₁.heap H).Ns b m:=fun {b m} ⟨o,es,ep,e,d,r⟩=>⟨o,es,ep,base_of e (noA e d),d,r⟩
  have hKb:K.In (hidT s₁.heap H):=fun b o e=>base_of (KX b o e) (by
   cases q:H b with
   | none=>rfl
   | some u =>
    have e':b=a:=hA b (by rw [q];simp)
    subst e'
    rw [hK (by rw [q];simp)] at e;cases e)
  have hM:Mod K mg (hidT s₁.heap H):=⟨hKb,nsK hns,⟨mb,nsK hb,hbb⟩,let ⟨mc,h1,h2⟩:=hlim;⟨mc,nsK h1,h2⟩⟩
  have e0:Env0 P w K mg (hidT s₁.heap H) callerA [] s₁ H:=⟨rfl,hM,fun b o e=>of_hidT e,Nat.le_of_eq (hidT_size _ _),trivial,fun b hb=>absurd (show b∈([]:List Addr) from hb) (by simp),hok,.of_eq hg⟩
  refine codeAny_mono ((F _ hKb (nsK hns)).run callerA [] s₁ H ⟨[.ref a],[]⟩ [.ref a] [.ref a] _ _ hr e0 (hbind s₁ (.ref a)) (.cons rfl .nil) (hsp H hO hS)) fun r s' h=>?_
  cases r with
  | error e=>exact (hCX H e s' h).elim
  | ok fl =>
   cases fl with
   | next=>exact False.elim h
   | brk=>exact False.elim h
   | cont=>exact False.elim h
   | ret u =>
    obtain ⟨v,H',os,bare,un,hok',r',q⟩:=h
    have q':v = .bl true:=q
    subst q'
    obtain rfl:u=Value.bool true:=r'
    refine ⟨rfl,OldK.of_keep fun b o e=>?_,os,bare⟩
    cases q:H b with
    | none=>exact un.keep b o e q (by intro z;exact absurd (show b∈([]:List Addr) from z) (by simp)) (by simp)
    | some u =>
     rcases hO b with z | ⟨ob,xs,z⟩
     ·rw [q] at z;cases z
     ·have z2:=un.frzs b ob _ z
      obtain ⟨e1,_⟩:=hok b _ z
      obtain ⟨e2,_⟩:=hok' b _ z2
      rw [e] at e1;cases e1
      exact e2
 cases hk:K.lookup a with
 | some o =>
  have e:=KX a o hk
  rw [ha] at e
  cases e
  refine core (fun _=>none) (fun _=>.inl rfl) (.inr ⟨_,vs.toArray,_,hk,rfl,rfl,rfl,by rw [List.size_toArray,lenV];exact hl,by simpa using rv⟩) (fun b u z=>by have z':(none:Option HO)=some u:=z;cases z') (fun b z=>absurd rfl z) fun z=>absurd rfl z
 | none =>
  refine core (fun b=>if b=a then some (.frz { cls:=.type "list",data:=.seq vs.toArray } (.lst (ns.map V.int))) else none) (fun b=>?_) (.inl (.inr ⟨{ cls:=.type "list",data:=.seq vs.toArray },if_pos rfl⟩)) (fun b u z=>?_) (fun b z=>?_) fun _=>hk
  ·by_cases hb:b=a
   ·exact .inr ⟨_,_,if_pos hb⟩
   ·exact .inl (if_neg hb)
  ·by_cases hb:b=a
   ·have z':=(if_pos hb).symm.trans z
    cases z'
    subst hb
    exact ⟨ha,by rw [List.length_map];exact hl,vs,_,rv,ha⟩
   ·have z':=(if_neg hb).symm.trans z
    cases z'
  ·by_cases hb:b=a
   ·exact hb
   ·exact absurd (if_neg hb) z
end L2
namespace L2
open PySem PySem.Spec PyProof.Rows
theorem walk_of {l:PySem.W.OpenLaw}{n k:Nat}{q:Program}{loose:List Str}{XP:(Str->Option Value)->Heap->Prop}{YP:World->Heap->Prop}{d:DefRec}{K:Params->PySem.W.Frag}{CX:World->CXT}{sp:World->Sp}{x:Str}
  (hn:l.most=some n) (hn2:n<=sizeLine) (hdf:d.params.defaults=[]) (hr:Room k callerA)
  (hY:∀ (w:World) (h:Heap),YP w h->(K w.params).In h)
  (F:∀ (w:World) (mg:Str->Option Value) (fa:Addr) (h:Heap),(K w.params).In h->h.Ns mainGlobals mg->mg d.name=some (.ref fa) ->
   ∃ fd:FuncData,(∀ (s:Shared) (u:Value),BindsTo s fd ⟨[u],[]⟩ [(x,u)]) ∧
    ∀ base:Heap,(K w.params).In base->base.Ns mainGlobals mg->FnOk l.prog w (K w.params) mg base (CX w) k fa fd [x] (sp w))
  (hsp:∀ (w:World) (H:Hp) (a:Addr) (ns:List Int),ns.length<=n->Only H->SqL (K w.params) H a (ns.map V.int)->sp w [.ref a] H (fun v _=>v = .bl true) fun _ _ _=>False)
  (hCX:∀ (w:World) (H:Hp) (s:Shared) (e:Value) (s':Shared),CX w [] H s (fun _ _ _=>False) e s'->False) :
  PySem.W.WalkO q loose XP YP l.row.toRowW d [] (fun f vs=>PySem.call f vs):=by
 refine Att.attach_call hn hdf fun w s₀ s₁ mg mb fa o pm cd doc a vs ns G Y ho hd hcd hmg hobj hints hlen hg=>?_
 have KX:=hY w _ Y
 obtain ⟨fd,hb,hF⟩:=F w mg fa _ KX G.T.g hmg
 exact law_call KX G.T.g G.T.b G.T.builtins G.T.nolimit hg hobj hints (Nat.le_trans hlen hn2) hr hF hb (fun H hO hS=>hsp w H a ns hlen hO hS) fun H e s'=>hCX w H s₁ e s'
end L2
namespace L2
open PySem PySem.Spec PyProof.Rows
def inClass (s:Stmt)(j:Nat):Stmt:=match s with
 | .ClassDef _ _ _ body _ _ _ _ _ _ _=>body.getD j (.Pass ⟨0,0,0,0⟩)
 | _=>.Pass ⟨0,0,0,0⟩
def defArgs (s:Stmt):Arguments:=match s with
 | .FunctionDef _ a _ _ _ _ _ _ _ _=>a
 | _=>{ posonlyargs:=[],args:=[],vararg:=none,kwonlyargs:=[],kw_defaults:=[],kwarg:=none,defaults:=[] }
def defBody (s:Stmt):List Stmt:=match s with
 | .FunctionDef _ _ b _ _ _ _ _ _ _=>b
 | _=>[]
def defScope (s:Stmt):Scope:=match s with
 | .FunctionDef _ _ _ _ _ _ sc _ _ _=>sc
 | _=>{ kind:=.function,names:=[],isGenerator:=false,isCoroutine:=false }
abbrev E0:XK:=fun _ _ _=>False
set_option genInjectivity false in
structure Fun (K:PySem.W.Frag)(x qual:Str)(st:Stmt)(f:Addr)(fd:FuncData):Prop where
 ex:∃ (oc:Value) (od:Option Addr) (kV doc pm:Value) (an:Option Addr) (cdv ct:Value) (osl:Array (Option Value)),
  fd=PySem.W.fnOf x qual (defArgs st) (defBody st) (defScope st) .none kV doc pm an cdv ct∧K.lookup f=some ⟨oc,od,.func fd,osl⟩∧PySem.W.codeIn K cdv qual=true
 kp:PySem.W.keepIn K (.ref f)=true
section
variable {P:Program}{w:World}{K:PySem.W.Frag}{mg:Str->Option Value}{base:Heap}
theorem Fun.binds {x qual:Str}{st:Stmt}{f:Addr}{fd:FuncData}{ps:List Str}(F:Fun K x qual st f fd)
  (h:∀ (kV doc pm:Value) (an:Option Addr) (cdv ct:Value) (us:List Value),us.length=ps.length->bindArgs (PySem.W.fnOf x qual (defArgs st) (defBody st) (defScope st) .none kV doc pm an cdv ct) ⟨us,[]⟩=pure (ps.zip us)):Binds K fd ps []:=by
 obtain ⟨oc,od,kV,doc,pm,an,cdv,ct,osl,rfl,lk,hcd⟩:=F.ex
 exact .all (h kV doc pm an cdv ct)
theorem fun_mk {x qual:Str}{st:Stmt}{f:Addr}{oc:Value}{od an:Option Addr}{osl:Array (Option Value)}{kV doc pm cdv ct:Value}(l:K.lookup f=some ⟨oc,od,.func (PySem.W.fnOf x qual (defArgs st) (defBody st) (defScope st) .none kV doc pm an cdv ct),osl⟩)
 (c:PySem.W.codeIn K cdv qual=true) (k:PySem.W.keepIn K (.ref f)=true):Fun K x qual st f (PySem.W.fnOf x qual (defArgs st) (defBody st) (defScope st) .none kV doc pm an cdv ct):=⟨⟨oc,od,kV,doc,pm,an,cdv,ct,osl,rfl,l,c⟩,k⟩
end
theorem hu_of {A:Around}{k:Nat}(hr:Room k A):A.units+1<cLine:=Nat.lt_of_le_of_lt (Nat.add_le_add_left (by decide:1<=64) _) hr.units
section
variable {X:Cx}
theorem pv (i:Nat){x:Str}{pos:Pos}(hN:X.N[i]?=some x:=by rfl)(hv:Vis X.env.scope x:=by first | exact Or.inl rfl | exact Or.inr (Or.inl rfl) | exact Or.inr (Or.inr rfl))(hd:(x==("__debug__" : Str))=false:=by decide)
 (hcd:(x==("__classdict__" : Str))=false:=by decide):PE X (.Name x pos) (tVar i):=pe_var hN hv hd hcd
end
theorem iteF {A B:Prop}(h:B):if false=true then A else B:=by
 rw [if_neg Bool.false_ne_true]
 exact h
theorem iteT {A B:Prop}(h:A):if true=true then A else B:=by
 rw [if_pos rfl]
 exact h
theorem ite2 {c A B:Prop}[Decidable c](h1:c->A)(h2:¬ c->B):if c then A else B:=by
 by_cases h:c
 ·rw [if_pos h]
  exact h1 h
 ·rw [if_neg h]
  exact h2 h
theorem iteNS {c A B:Prop}[Decidable c](hc:c)(h:B):if (!decide c)=true then A else B:=by
 rw [decide_eq_true hc]
 exact iteF h
def Same (H H':Hp):Prop:=∀ b o,H b=some o->H' b=some o
theorem Same.refl (H:Hp):Same H H:=fun _ _ h=>h
theorem Same.trans {H H1 H2:Hp}(a:Same H H1)(b:Same H1 H2):Same H H2:=fun c o h=>b c o (a c o h)
theorem Same.seq {K:PySem.W.Frag}{H H':Hp}{a:Addr}{xs:List V}(e:Same H H')(h:SqL K H a xs):SqL K H' a xs:=by
 rcases h with (h | ⟨o,h⟩) | h
 ·exact .inl (.inl (e _ _ h))
 ·exact .inl (.inr ⟨o,e _ _ h⟩)
 ·exact .inr h
end L2
namespace Wd
abbrev W:=List Nat
theorem lele {a b c:W}(h:¬ b<a)(h':¬ c<b):¬ c<a:=fun hc=>List.not_lt.mpr (List.le_trans (List.not_lt.mp h) (List.not_lt.mp h')) hc
def rot (k:Nat)(w:W):W:=w.drop k++w.take k
theorem ext_get {a b:W}(hl:a.length=b.length)(h:∀ i,i<a.length->a[i]?=b[i]?):a=b:=by
 apply List.ext_getElem? 
 intro i
 by_cases hi:i<a.length
 ·exact h i hi
 ·rw [List.getElem?_eq_none (by omega),List.getElem?_eq_none (by omega)]
def leastTo (w:W):Nat->W
 | 0=>w
 | n+1=>if rot (n+1) w<leastTo w n then rot (n+1) w else leastTo w n
def least (w:W):W:=leastTo w (w.length-1)
end Wd
namespace Wd
end Wd
namespace Wd
def rep (n:Nat)(l:W):W:=(List.replicate n l).flatten
theorem rep_succ (n:Nat)(l:W):rep (n+1) l=l++rep n l:=by unfold rep;rw [List.replicate_succ,List.flatten_cons]
theorem rep_zero (l:W):rep 0 l=[]:=rfl
theorem rep_one (l:W):rep 1 l=l:=by rw [rep_succ,rep_zero,List.append_nil]
theorem rep_len (n:Nat)(l:W):(rep n l).length=n*l.length:=by
 induction n with
 | zero=>rw [rep_zero,Nat.zero_mul];rfl
 | succ n ih=>rw [rep_succ,List.length_append,ih,Nat.succ_mul,Nat.add_comm]
theorem rep_get {l:W}{n i:Nat}(h:i<n*l.length):(rep n l)[i]?=l[i % l.length]?:=by
 induction n generalizing i with
 | zero=>rw [Nat.zero_mul] at h;omega
 | succ n ih =>
  rw [rep_succ]
  rw [Nat.succ_mul] at h
  by_cases hi:i<l.length
  ·rw [List.getElem?_append_left hi,Nat.mod_eq_of_lt hi]
  ·rw [List.getElem?_append_right (by omega),ih (by omega)]
   congr 1
   rw [<- Nat.mod_eq_sub_mod (by omega)]
end Wd
namespace Wd
end Wd
namespace Wd
end Wd
namespace Dt
abbrev Mx:=Nat->Nat->Int
def sumN:Nat->(Nat->Int)->Int
 | 0,_=>0
 | n+1,f=>sumN n f+f n
def sk (j k:Nat):Nat:=if k<j then k else k+1
def sg (j:Nat):Int:=if j % 2=0 then 1 else -1
def det:Nat->Mx->Int
 | 0,_=>1
 | n+1,A=>sumN (n+1) fun j=>sg j*(A 0 j*det n fun i k=>A (i+1) (sk j k))
section
variable {n N p q i j k l:Nat}{A B:Mx}{f g:Nat->Int}{c m:Int}
theorem sum_congr:∀ {n:Nat},(∀ j,j<n->f j=g j)->sumN n f=sumN n g
 | 0,_=>rfl
 | n+1,h=>by
  show sumN n f+f n=sumN n g+g n
  rw [sum_congr (n:=n) fun j hj=>h j (by omega),h n (by omega)]
theorem sum_lin:∀ {n:Nat},sumN n (fun j=>f j+c*g j)=sumN n f+c*sumN n g
 | 0=>by show (0:Int)=0+c*0;omega
 | n+1=>by
  show sumN n (fun j=>f j+c*g j)+(f n+c*g n)=(sumN n f+f n)+c*(sumN n g+g n)
  rw [sum_lin (n:=n),Int.mul_add]
  omega
theorem sum_zero:∀ {n:Nat},(∀ j,j<n->f j=0)->sumN n f=0
 | 0,_=>rfl
 | n+1,h=>by
  show sumN n f+f n=0
  rw [sum_zero (n:=n) fun j hj=>h j (by omega),h n (by omega)]
  rfl
theorem sum_mul {n:Nat}:sumN n (fun j=>c*g j)=c*sumN n g:=by
 have h:=sum_lin (n:=n) (f:=fun _=>0) (c:=c) (g:=g)
 rw [sum_zero (fun _ _=>rfl)] at h
 rw [sum_congr (g:=fun j=>0+c*g j) fun j _=>by omega,h]
 omega
theorem sum_first:∀ {n:Nat},(∀ j,0<j->j<n+1->f j=0)->sumN (n+1) f=f 0
 | 0,_=>by show (0:Int)+f 0=f 0;omega
 | n+1,h=>by
  show sumN (n+1) f+f (n+1)=f 0
  rw [sum_first (n:=n) fun j h0 hj=>h j h0 (by omega),h (n+1) (by omega) (by omega)]
  omega
theorem sk_lt (h:k<n):sk j k<n+1:=by unfold sk;split <;> omega
theorem det_congr:∀ {n:Nat} {A B:Mx},(∀ i k,i<n->k<n->A i k=B i k)->det n A=det n B
 | 0,_,_,_=>rfl
 | n+1,A,B,h=>by
  refine sum_congr fun j hj=>?_
  rw [h 0 j (by omega) hj,det_congr (n:=n) fun i k hi hk=>h (i+1) (sk j k) (by omega) (sk_lt hk)]
def setR (A:Mx)(i:Nat)(u:Nat->Int):Mx:=fun a k=>if a=i then u k else A a k
theorem setR_at {u:Nat->Int}:setR A i u i=u:=by
 funext k
 exact if_pos rfl
theorem setR_ne {u:Nat->Int}{a:Nat}(h:a≠i):setR A i u a=A a:=by
 funext k
 exact if_neg h
theorem setR_minor {u:Nat->Int}:(fun a k=>setR A (i+1) u (a+1) (sk j k))=setR (fun a k=>A (a+1) (sk j k)) i fun k=>u (sk j k):=by
 funext a k
 unfold setR
 by_cases h:a=i
 ·rw [if_pos h,if_pos (by omega)]
 ·rw [if_neg h,if_neg (by omega)]
theorem det_lin:∀ {n:Nat} {A:Mx} {i:Nat} {u v:Nat->Int},i<n->det n (setR A i fun k=>u k+c*v k)=det n (setR A i u)+c*det n (setR A i v)
 | n+1,A,0,u,v,_=>by
  have e:∀ w:Nat->Int,det (n+1) (setR A 0 w)=sumN (n+1) fun j=>sg j*(w j*det n fun i k=>A (i+1) (sk j k)):=fun w=>by
   refine sum_congr fun j _=>?_
   rw [setR_at,det_congr (n:=n) (A:=fun i k=>setR A 0 w (i+1) (sk j k)) (B:=fun i k=>A (i+1) (sk j k)) fun a k _ _=>by rw [setR_ne (by omega)]]
  rw [e,e,e,<- sum_lin]
  refine sum_congr fun j _=>?_
  rw [Int.add_mul,Int.mul_add]
  congr 1
  rw [Int.mul_assoc c,<- Int.mul_assoc (sg j) c,Int.mul_comm (sg j) c,Int.mul_assoc c]
 | n+1,A,i+1,u,v,h=>by
  have e:∀ w:Nat->Int,det (n+1) (setR A (i+1) w)=sumN (n+1) fun j=>sg j*(A 0 j*det n (setR (fun a k=>A (a+1) (sk j k)) i fun k=>w (sk j k))):=fun w=>by
   refine sum_congr fun j _=>?_
   rw [setR_minor,setR_ne (by omega)]
  rw [e,e,e,<- sum_lin]
  refine sum_congr fun j _=>?_
  rw [det_lin (n:=n) (i:=i) (u:=fun k=>u (sk j k)) (v:=fun k=>v (sk j k)) (by omega),Int.mul_add,Int.mul_add]
  congr 1
  rw [<- Int.mul_assoc (A 0 j) c,Int.mul_comm (A 0 j) c,Int.mul_assoc c,<- Int.mul_assoc (sg j) c,Int.mul_comm (sg j) c,Int.mul_assoc c]
theorem sg_succ:sg (j+1) = - sg j:=by
 unfold sg
 by_cases h:j % 2=0
 ·rw [if_pos h,if_neg (by omega)]
 ·rw [if_neg h,if_pos (by omega)];rfl
theorem sg_sq:sg j*sg j=1:=by
 unfold sg
 split <;> rfl
theorem dbl {F:Nat->Nat->Int}:∀ {N:Nat},(∀ j l,l<j->j<=N->F j l+F l (j-1)=0)->sumN (N+1) (fun j=>sumN N (F j))=0
 | 0,_=>rfl
 | N+1,h=>by
  have ih:=dbl (N:=N) fun j l hl hj=>h j l hl (by omega)
  have e1:sumN (N+1) (fun j=>sumN (N+1) (F j))=sumN (N+1) (fun j=>sumN N (F j)+1*F j N):=sum_congr fun j _=>by
   show sumN N (F j)+F j N=_
   omega
  have e2:sumN (N+1) (fun l=>F l N+1*F (N+1) l)=0:=sum_zero fun l hl=>by
   have:=h (N+1) l (by omega) (by omega)
   rw [Nat.add_sub_cancel] at this
   omega
  rw [sum_lin] at e1 e2
  show sumN (N+1) (fun j=>sumN (N+1) (F j))+sumN (N+1) (F (N+1))=0
  have e3:sumN (N+1) (F (N+1))=sumN (N+1) fun l=>F (N+1) l:=rfl
  rw [e1,ih]
  omega
theorem sk_sk (h:l<j):sk j (sk l k)=sk l (sk (j-1) k):=by
 have a:∀ x y:Nat,sk x y=if y<x then y else y+1:=fun _ _=>rfl
 by_cases h1:k<l
 ·rw [a l k,if_pos h1,a j k,if_pos (by omega),a (j-1) k,if_pos (by omega),a l k,if_pos h1]
 ·rw [a l k,if_neg h1]
  by_cases h2:k+1<j
  ·rw [a j,if_pos h2,a (j-1) k,if_pos (by omega),a l k,if_neg h1]
  ·rw [a j,if_neg h2,a (j-1) k,if_neg (by omega),a l,if_neg (by omega)]
theorem alt0 (h:∀ k,k<n+2->A 0 k=A 1 k):det (n+2) A=0:=by
 have e:det (n+2) A=sumN (n+2) fun j=>sumN (n+1) fun l=>sg j*(A 0 j*(sg l*(A 1 (sk j l)*det n fun i k=>A (i+2) (sk j (sk l k))))):=by
  refine sum_congr fun j _=>?_
  show sg j*(A 0 j*sumN (n+1) fun l=>sg l*(A 1 (sk j l)*det n fun i k=>A (i+2) (sk j (sk l k))))=_
  rw [<- sum_mul,<- sum_mul]
 rw [e]
 refine dbl fun j l hl hj=>?_
 have s1:sk j l=l:=by unfold sk;rw [if_pos hl]
 have s2:sk l (j-1)=j:=by unfold sk;rw [if_neg (by omega)];omega
 have s3:(fun i k=>A (i+2) (sk l (sk (j-1) k)))=fun i k=>A (i+2) (sk j (sk l k)):=by
  funext i k
  rw [sk_sk hl]
 rw [s1,s2,s3,<- h j (by omega),<- h l (by omega)]
 have s4:sg j = - sg (j-1):=by rw [<- sg_succ,Nat.sub_add_cancel (by omega)]
 rw [s4]
 generalize det n (fun i k=>A (i+2) (sk j (sk l k)))=d
 grind
theorem alt:∀ {n i:Nat} {A:Mx},i+1<n->(∀ k,k<n->A i k=A (i+1) k)->det n A=0
 | n+2,0,A,_,h=>alt0 h
 | n+1,i+1,A,hi,h=>by
  refine sum_zero fun j _=>?_
  rw [alt (n:=n) (i:=i) (A:=fun a k=>A (a+1) (sk j k)) (by omega) fun k hk=>h (sk j k) (sk_lt hk),Int.mul_zero,Int.mul_zero]
def tr (p i:Nat):Nat:=if i=p then p+1 else if i=p+1 then p else i
theorem setR_comm {u v:Nat->Int}(h:i≠j):setR (setR A i u) j v=setR (setR A j v) i u:=by
 funext a k
 unfold setR
 by_cases h1:a=i
 ·rw [if_neg (by omega),if_pos h1,if_pos h1]
 ·by_cases h2:a=j
  ·rw [if_pos h2,if_neg h1,if_pos h2]
  ·rw [if_neg h2,if_neg h1,if_neg h1,if_neg h2]
theorem det_add {u v:Nat->Int}(h:i<n):det n (setR A i fun k=>u k+v k)=det n (setR A i u)+det n (setR A i v):=by
 have:=det_lin (c:=1) (A:=A) (u:=u) (v:=v) h
 rw [Int.one_mul] at this
 rw [<- this]
 congr 2
 funext k
 omega
theorem det_self (u:Nat->Int)(h:∀ k,u k=A i k):det n (setR A i u)=det n A:=det_congr fun a k _ _=>by
 unfold setR
 by_cases e:a=i
 ·rw [if_pos e,h,e]
 ·rw [if_neg e]
theorem swap (h:p+1<n):det n (fun i k=>A (tr p i) k) = - det n A:=by
 have D:∀ x y:Nat->Int,∃ d,det n (setR (setR A p x) (p+1) y)=d:=fun _ _=>⟨_,rfl⟩
 have z:∀ w:Nat->Int,det n (setR (setR A p w) (p+1) w)=0:=fun w=>alt h fun k _=>by rw [setR_ne (by omega),setR_at,setR_at]
 have l2:∀ x y y':Nat->Int,det n (setR (setR A p x) (p+1) fun k=>y k+y' k)=det n (setR (setR A p x) (p+1) y)+det n (setR (setR A p x) (p+1) y'):=fun x y y'=>det_add h
 have l1:∀ x x' y:Nat->Int,det n (setR (setR A p fun k=>x k+x' k) (p+1) y)=det n (setR (setR A p x) (p+1) y)+det n (setR (setR A p x') (p+1) y):=fun x x' y=>by
  rw [setR_comm (by omega),setR_comm (u:=x) (by omega),setR_comm (u:=x') (by omega)]
  exact det_add (by omega)
 have e0:=z fun k=>A p k+A (p+1) k
 rw [l2,l1,l1,z,z] at e0
 have e1:det n (setR (setR A p (A p)) (p+1) (A (p+1)))=det n A:=by
  rw [det_self _ (fun k=>by rw [setR_ne (by omega)]),det_self _ (fun k=>rfl)]
 have e2:det n (setR (setR A p (A (p+1))) (p+1) (A p))=det n fun i k=>A (tr p i) k:=by
  refine det_congr fun a k _ _=>?_
  unfold setR tr
  by_cases h1:a=p+1
  ·rw [if_pos h1,if_neg (by omega),if_pos h1]
  ·rw [if_neg h1]
   by_cases h2:a=p
   ·rw [if_pos h2,if_pos h2]
   ·rw [if_neg h2,if_neg h2,if_neg h1]
 rw [e1,e2] at e0
 omega
theorem alt_far:∀ (d:Nat) {i:Nat} {A:Mx},i+1+d<n->(∀ k,k<n->A i k=A (i+1+d) k)->det n A=0
 | 0,i,A,hi,h=>alt hi h
 | d+1,i,A,hi,h=>by
  have h2:=alt_far d (i:=i) (A:=fun a k=>A (tr (i+1+d) a) k) (by omega) fun k hk=>by
   show A (tr (i+1+d) i) k=A (tr (i+1+d) (i+1+d)) k
   unfold tr
   rw [if_neg (by omega),if_neg (by omega),if_pos rfl]
   exact h k hk
  rw [swap (by omega)] at h2
  omega
theorem lower1 {t:Int}(h0:0<i)(h:i<n):det n (setR A i fun k=>A i k-t*A 0 k)=det n A:=by
 have e:=det_lin (c:=-t) (A:=A) (u:=A i) (v:=A 0) h
 rw [det_self (A i) fun _=>rfl,alt_far (i-1) (i:=0) (A:=setR A i (A 0)) (by omega) fun k _=>?_,Int.mul_zero,Int.add_zero] at e
 ·rw [<- e]
  congr 2
  funext k
  rw [Int.neg_mul]
  omega
 ·rw [setR_ne (by omega),show 0+1+(i-1)=i by omega,setR_at]
theorem lowAll {t:Nat->Int}:∀ {m:Nat},m<=n->det n (fun i k=>if 0<i∧i<m then A i k-t i*A 0 k else A i k)=det n A
 | 0,_=>det_congr fun i k _ _=>if_neg (by omega)
 | m+1,hm=>by
  rw [<- lowAll (m:=m) (by omega)]
  by_cases h0:m=0
  ·subst h0
   exact det_congr fun i k _ _=>by rw [if_neg (by omega),if_neg (by omega)]
  ·rw [<- lower1 (A:=fun i k=>if 0<i∧i<m then A i k-t i*A 0 k else A i k) (i:=m) (t:=t m) (by omega) (by omega)]
   refine det_congr fun i k _ _=>?_
   unfold setR
   dsimp only
   by_cases h1:i=m
   ·subst h1
    rw [if_pos rfl,if_pos (by omega),if_neg (by omega),if_neg (by omega)]
   ·rw [if_neg h1]
    by_cases h2:0<i∧i<m
    ·rw [if_pos h2,if_pos (by omega)]
    ·rw [if_neg h2,if_neg (by omega)]
theorem zcol:∀ {n:Nat} {A:Mx},(∀ i,i<n+1->A i 0=0)->det (n+1) A=0
 | n,A,h=>by
  refine sum_zero fun j hj=>?_
  cases j with
  | zero=>rw [h 0 (by omega),Int.zero_mul,Int.mul_zero]
  | succ j =>
   cases n with
   | zero=>omega
   | succ n=>rw [zcol (n:=n) (A:=fun i k=>A (i+1) (sk (j+1) k)) fun i hi=>h (i+1) (by omega),Int.mul_zero,Int.mul_zero]
theorem col0 (h:∀ i,i<n->A (i+1) 0=0):det (n+1) A=A 0 0*det n fun i k=>A (i+1) (k+1):=by
 show sumN (n+1) _=_
 rw [sum_first fun j h0 hj=>?_]
 ·show sg 0*(A 0 0*det n fun i k=>A (i+1) (sk 0 k))=_
  rw [show sg 0=1 from rfl,Int.one_mul]
  rfl
 ·cases n with
  | zero=>omega
  | succ n =>
   rw [zcol (A:=fun i k=>A (i+1) (sk j k)) fun i hi=>by
    show A (i+1) (sk j 0)=0
    rw [show sk j 0=0 by unfold sk;rw [if_pos h0]]
    exact h i hi,Int.mul_zero,Int.mul_zero]
def Cg (m a b:Int):Prop:=m∣a-b
theorem Cg.refl (a:Int):Cg m a a:=by unfold Cg;rw [Int.sub_self];exact Int.dvd_zero m
theorem Cg.symm {a b:Int}(h:Cg m a b):Cg m b a:=by
 unfold Cg at *
 rw [<- Int.neg_sub]
 exact Int.dvd_neg.mpr h
theorem Cg.trans {a b d:Int}(h:Cg m a b)(g:Cg m b d):Cg m a d:=by
 unfold Cg at *
 rw [show a-d=(a-b)+(b-d) by omega]
 exact Int.dvd_add h g
theorem Cg.add {a b a' b':Int}(h:Cg m a b)(g:Cg m a' b'):Cg m (a+a') (b+b'):=by
 unfold Cg at *
 rw [show a+a'-(b+b')=(a-b)+(a'-b') by omega]
 exact Int.dvd_add h g
theorem Cg.mul {a b a' b':Int}(h:Cg m a b)(g:Cg m a' b'):Cg m (a*a') (b*b'):=by
 unfold Cg at *
 rw [show a*a'-b*b'=(a-b)*a'+b*(a'-b') by rw [Int.sub_mul,Int.mul_sub];omega]
 exact Int.dvd_add (Int.dvd_mul_of_dvd_left h) (Int.dvd_mul_of_dvd_right g)
theorem Cg.sub {a b a' b':Int}(h:Cg m a b)(g:Cg m a' b'):Cg m (a-a') (b-b'):=by
 unfold Cg at *
 rw [show a-a'-(b-b')=(a-b)-(a'-b') by omega]
 exact Int.dvd_sub h g
theorem Cg.neg {a b:Int}(h:Cg m a b):Cg m (-a) (-b):=by
 have:=(Cg.refl (m:=m) 0).sub h
 rwa [Int.zero_sub,Int.zero_sub] at this
theorem cg_mod (a:Int):Cg m (a % m) a:=by
 unfold Cg
 rw [Int.emod_def]
 rw [show a-m*(a/m)-a = -(m*(a/m)) by omega]
 exact Int.dvd_neg.mpr (Int.dvd_mul_right ..)
theorem cg_sum:∀ {n:Nat},(∀ j,j<n->Cg m (f j) (g j))->Cg m (sumN n f) (sumN n g)
 | 0,_=>Cg.refl _
 | n+1,h=>(cg_sum (n:=n) fun j hj=>h j (by omega)).add (h n (by omega))
theorem det_cg:∀ {n:Nat} {A B:Mx},(∀ i k,i<n->k<n->Cg m (A i k) (B i k))->Cg m (det n A) (det n B)
 | 0,_,_,_=>Cg.refl _
 | n+1,A,B,h=>cg_sum fun j hj=>(Cg.refl _).mul ((h 0 j (by omega) hj).mul (det_cg fun i k hi hk=>h (i+1) (sk j k) (by omega) (sk_lt hk)))
theorem det_step {t:Nat->Int}(h:∀ i,i<n->m∣A (i+1) 0-t i*A 0 0):Cg m (det (n+1) A) (A 0 0*det n fun i k=>A (i+1) (k+1)-t i*A 0 (k+1)):=by
 rw [<- lowAll (n:=n+1) (A:=A) (t:=fun i=>t (i-1)) (m:=n+1) (Nat.le_refl _)]
 refine (det_cg (B:=fun i k=>if i=0 then A 0 k else if k=0 then 0 else A i k-t (i-1)*A 0 k) fun i k hi hk=>?_).trans ?_
 ·by_cases h0:i=0
  ·subst h0
   rw [if_neg (by omega),if_pos rfl]
   exact Cg.refl _
  ·rw [if_pos (by omega),if_neg h0]
   by_cases hk0:k=0
   ·subst hk0
    rw [if_pos rfl]
    have:=h (i-1) (by omega)
    rw [show i-1+1=i by omega] at this
    unfold Cg
    rw [Int.sub_zero]
    exact this
   ·rw [if_neg hk0]
    exact Cg.refl _
 ·rw [col0 fun i _=>by rw [if_neg (by omega),if_pos rfl]]
  rw [if_pos rfl]
  have e:det n (fun i k=>if i+1=0 then A 0 (k+1) else if k+1=0 then 0 else A (i+1) (k+1)-t (i+1-1)*A 0 (k+1))=det n fun i k=>A (i+1) (k+1)-t i*A 0 (k+1):=det_congr fun i k _ _=>by rw [if_neg (by omega),if_neg (by omega)];rfl
  rw [e]
  exact Cg.refl _
def mv (p:Nat)(A:Mx):Mx:=fun i k=>if i=0 then A p k else if i<=p then A (i-1) k else A i k
theorem det_mv:∀ {p:Nat} {A:Mx},p<n->det n (mv p A)=sg p*det n A
 | 0,A,h=>by
  rw [show sg 0=1 from rfl,Int.one_mul]
  exact det_congr fun i k _ _=>by
   unfold mv
   by_cases h0:i=0
   ·rw [if_pos h0,h0]
   ·rw [if_neg h0,if_neg (by omega)]
 | p+1,A,h=>by
  have ih:=det_mv (p:=p) (A:=fun i k=>A (tr p i) k) (by omega)
  rw [swap h] at ih
  rw [sg_succ,Int.neg_mul,<- Int.mul_neg,<- ih]
  refine det_congr fun i k _ _=>?_
  unfold mv tr
  dsimp only
  by_cases h0:i=0
  ·rw [if_pos h0,if_pos h0,if_pos rfl]
  ·rw [if_neg h0,if_neg h0]
   by_cases h1:i<=p
   ·rw [if_pos (by omega),if_pos h1,if_neg (by omega),if_neg (by omega)]
   ·by_cases h2:i=p+1
    ·subst h2
     rw [if_pos (by omega),if_neg (by omega),if_neg (by omega),if_pos rfl]
     rfl
    ·rw [if_neg (by omega),if_neg h1,if_neg (by omega),if_neg h2]
end
end Dt
namespace Dt
def sN:Nat->(Nat->Nat)->Nat
 | 0,_=>0
 | n+1,f=>sN n f+f n
def pN:Nat->(Nat->Nat)->Nat
 | 0,_=>1
 | n+1,f=>f 0*pN n fun i=>f (i+1)
section
variable {n N p q i j k l:Nat}{A B:Mx}{f g:Nat->Nat}{c m:Int}
theorem sN_le:∀ {n:Nat},(∀ j,j<n->f j<=g j)->sN n f<=sN n g
 | 0,_=>Nat.le_refl _
 | n+1,h=>Nat.add_le_add (sN_le fun j hj=>h j (by omega)) (h n (by omega))
theorem sN_mul {c:Nat}:∀ {n:Nat},sN n (fun j=>f j*c)=sN n f*c
 | 0=>by show 0=0*c;omega
 | n+1=>by
  show sN n (fun j=>f j*c)+f n*c=(sN n f+f n)*c
  rw [sN_mul (n:=n),Nat.add_mul]
theorem pN_le:∀ {n:Nat} {f g:Nat->Nat},(∀ j,j<n->f j<=g j)->pN n f<=pN n g
 | 0,_,_,_=>Nat.le_refl _
 | n+1,f,g,h=>Nat.mul_le_mul (h 0 (by omega)) (pN_le fun j hj=>h (j+1) (by omega))
theorem sum_abs {f:Nat->Int}:∀ {n:Nat},(sumN n f).natAbs<=sN n fun j=>(f j).natAbs
 | 0=>Nat.le_refl _
 | n+1=>by
  have:=sum_abs (f:=f) (n:=n)
  have h2:=Int.natAbs_add_le (sumN n f) (f n)
  show (sumN n f+f n).natAbs<=sN n (fun j=>(f j).natAbs)+(f n).natAbs
  omega
theorem sN_sk {f:Nat->Nat}{j:Nat}:∀ {n:Nat},sN n (fun k=>f (sk j k))<=sN (n+1) f
 | 0=>Nat.zero_le _
 | n+1=>by
  show sN n (fun k=>f (sk j k))+f (sk j n)<=sN (n+1) f+f (n+1)
  by_cases h:n<j
  ·have e:∀ m,m<=n+1->sN m (fun k=>f (sk j k))=sN m f:=fun m=>by
    induction m with
    | zero=>intro _;rfl
    | succ m ih =>
     intro hm
     show sN m (fun k=>f (sk j k))+f (sk j m)=sN m f+f m
     rw [ih (by omega),show sk j m=m by unfold sk;rw [if_pos (by omega)]]
   have:=e (n+1) (Nat.le_refl _)
   have e2:sN (n+1) (fun k=>f (sk j k))=sN n (fun k=>f (sk j k))+f (sk j n):=rfl
   omega
  ·have:=sN_sk (j:=j) (f:=f) (n:=n)
   rw [show sk j n=n+1 by unfold sk;rw [if_neg h]]
   omega
theorem sg_abs:(sg j).natAbs=1:=by unfold sg;split <;> rfl
theorem det_bound:∀ {n:Nat} {A:Mx},(det n A).natAbs<=pN n fun i=>sN n fun k=>(A i k).natAbs
 | 0,_=>Nat.le_refl _
 | n+1,A=>by
  refine Nat.le_trans sum_abs ?_
  show _<=sN (n+1) (fun k=>(A 0 k).natAbs)*pN n fun i=>sN (n+1) fun k=>(A (i+1) k).natAbs
  rw [<- sN_mul]
  refine sN_le fun j _=>?_
  rw [Int.natAbs_mul,Int.natAbs_mul,sg_abs,Nat.one_mul]
  exact Nat.mul_le_mul_left _ (Nat.le_trans det_bound (pN_le fun i _=>sN_sk (f:=fun k=>(A (i+1) k).natAbs)))
def ent (M:List (List Int)):Mx:=fun i k=>(M.getD i []).getD k 0
theorem erase_get {α:Type}{M:List α}{d:α}(i:Nat):(M.eraseIdx p).getD i d=M.getD (if i<p then i else i+1) d:=by
 rw [List.getD_eq_getElem?_getD,List.getD_eq_getElem?_getD,List.getElem?_eraseIdx]
 split <;> rfl
theorem map_ent {M:List (List Int)}{u:List Int->List Int}(h:i<M.length):(M.map u).getD i []=u (M.getD i []):=by
 rw [List.getD_eq_getElem?_getD,List.getD_eq_getElem?_getD,List.getElem?_map,List.getElem?_eq_getElem h]
 rfl
theorem elim {M:List (List Int)}{top:List Int}{back:Int}{t:List Int->Int}{low:List Int->List Int}(hp:p<n+1)(hM:M.length=n+1)(htop:∀ k,k<n+1->Cg m (top.getD k 0) ((M.getD p []).getD k 0))(hb:Cg m (top.getD 0 0*back) 1)
  (ht:∀ r∈M,Cg m (t r) (r.getD 0 0*back)) (hlow:∀ r∈M,∀ k,k<n->(low r).getD k 0=r.getD (k+1) 0-t r*top.getD (k+1) 0):Cg m (det (n+1) (ent M)) (sg p*(top.getD 0 0*det n (ent ((M.eraseIdx p).map low)))):=by
 have e1:det (n+1) (ent M)=sg p*det (n+1) (mv p (ent M)):=by
  rw [det_mv hp,<- Int.mul_assoc,sg_sq,Int.one_mul]
 have mem:∀ i,i<n->(M.eraseIdx p).getD i []∈M:=fun i hi=>by
  rw [erase_get]
  split
  ·rw [List.getD_eq_getElem?_getD,List.getElem?_eq_getElem (by omega)]
   exact List.getElem_mem _
  ·rw [List.getD_eq_getElem?_getD,List.getElem?_eq_getElem (by omega)]
   exact List.getElem_mem _
 have row:∀ i k,i<n->mv p (ent M) (i+1) k=((M.eraseIdx p).getD i []).getD k 0:=fun i k hi=>by
  unfold mv ent
  rw [if_neg (by omega),erase_get]
  by_cases h:i<p
  ·rw [if_pos (by omega),if_pos h]
   rfl
  ·rw [if_neg (by omega),if_neg h]
 rw [e1]
 refine (Cg.refl _).mul ?_
 refine (det_cg (B:=fun i k=>if i=0 then top.getD k 0 else mv p (ent M) i k) fun i k hi hk=>?_).trans ?_
 ·by_cases h0:i=0
  ·subst h0
   rw [if_pos rfl]
   exact (htop k hk).symm
  ·rw [if_neg h0]
   exact Cg.refl _
 ·refine (det_step (t:=fun i=>t ((M.eraseIdx p).getD i [])) fun i hi=>?_).trans ?_
  ·rw [if_neg (by omega),if_pos rfl,row i 0 hi]
   have h1:=ht _ (mem i hi)
   have h2:=(h1.mul (Cg.refl (top.getD 0 0))).trans (b:=((M.eraseIdx p).getD i []).getD 0 0*back*top.getD 0 0) (d:=((M.eraseIdx p).getD i []).getD 0 0*1) (by
    rw [Int.mul_assoc,Int.mul_comm back]
    exact (Cg.refl _).mul hb)
   rw [Int.mul_one] at h2
   exact h2.symm
  ·rw [if_pos rfl]
   refine (Cg.refl _).mul ?_
   rw [det_congr (B:=ent ((M.eraseIdx p).map low)) fun i k hi hk=>?_]
   ·exact Cg.refl _
   ·rw [if_neg (by omega),if_pos rfl,row i (k+1) hi]
    unfold ent
    rw [map_ent (by rw [List.length_eraseIdx];split <;> omega),hlow _ (mem i hi) k hk]
theorem elim0 {M:List (List Int)}(h:∀ r∈M,m∣r.getD 0 0)(hM:M.length=n+1):Cg m (det (n+1) (ent M)) 0:=by
 rw [<- zcol (n:=n) (A:=fun i k=>if k=0 then 0 else ent M i k) fun i _=>if_pos rfl]
 refine det_cg fun i k hi hk=>?_
 by_cases hk0:k=0
 ·subst hk0
  rw [if_pos rfl]
  unfold Cg ent
  rw [Int.sub_zero]
  refine h _ ?_
  rw [List.getD_eq_getElem?_getD,List.getElem?_eq_getElem (by omega)]
  exact List.getElem_mem _
 ·rw [if_neg hk0]
  exact Cg.refl _
theorem sN_list:∀ {r:List Int} {n:Nat},r.length=n->(((r.map fun x=>if x<0 then -x else x).sum:Int))=((sN n fun k=>(r.getD k 0).natAbs:Nat):Int):=by
 intro r
 induction r with
 | nil=>intro n h;subst h;rfl
 | cons x r ih =>
  intro n h
  subst h
  have key:∀ (n:Nat) (f:Nat->Nat),sN (n+1) f=f 0+sN n fun k=>f (k+1):=fun n=>by
   induction n with
   | zero=>intro f;show 0+f 0=f 0+0;omega
   | succ n ih2 =>
    intro f
    show sN (n+1) f+f (n+1)=f 0+(sN n (fun k=>f (k+1))+f (n+1))
    rw [ih2]
    omega
  rw [List.map_cons,List.sum_cons,ih rfl,List.length_cons,key]
  show (if x<0 then -x else x)+_=(((x.natAbs+sN r.length fun k=>(r.getD k 0).natAbs:Nat)):Int)
  rw [Int.natCast_add]
  congr 1
  split <;> omega
end
end Dt
namespace Wd
def ringAt (t:W)(n i:Nat):W:=(List.range n).map fun k=>t.getD ((i+k) % t.length) 0
theorem ringAt_len (t:W)(n i:Nat):(ringAt t n i).length=n:=by rw [ringAt,List.length_map,List.length_range]
theorem ringAt_get {t:W}{n i k:Nat}(h:k<n)(ht:0<t.length):(ringAt t n i)[k]?=t[(i+k) % t.length]?:=by
 rw [ringAt,List.getElem?_map,List.getElem?_range h]
 show some (t.getD ((i+k) % t.length) 0)=_
 rw [List.getD_eq_getElem?_getD,List.getElem?_eq_getElem (Nat.mod_lt _ ht)]
 rfl
theorem row_at {t:W}{n i:Nat}(h:i+n<=t.length):(t.drop i).take n=ringAt t n i:=by
 apply ext_get
 ·rw [List.length_take,List.length_drop,ringAt_len]
  omega
 ·intro k hk
  rw [List.length_take,List.length_drop] at hk
  rw [List.getElem?_take_of_lt (by omega),List.getElem?_drop,ringAt_get (by omega) (by omega),Nat.mod_eq_of_lt (by omega)]
theorem ring_at {t:W}{n i c:Nat}(h:i+n<=c*t.length)(ht:0<t.length):((rep c t).drop i).take n=ringAt t n i:=by
 apply ext_get
 ·rw [List.length_take,List.length_drop,rep_len,ringAt_len]
  omega
 ·intro k hk
  rw [List.length_take,List.length_drop,rep_len] at hk
  rw [List.getElem?_take_of_lt (by omega),List.getElem?_drop,ringAt_get (by omega) ht,rep_get (by omega)]
def rowW (t:W)(n:Nat):List W:=(List.range (t.length+1-n)).map (ringAt t n)
def ringW (t:W)(n:Nat):List W:=(List.range t.length).map (ringAt t n)
def win (t:W)(n:Nat)(b:Bool):List W:=if b=true then ringW t n else rowW t n
theorem ringW_len (t:W)(n:Nat):(ringW t n).length=t.length:=by rw [ringW,List.length_map,List.length_range]
end Wd
namespace Wd
theorem ringAt_mod {t:W}{n i:Nat}:ringAt t n (i % t.length)=ringAt t n i:=by
 unfold ringAt
 refine List.map_congr_left fun k _=>?_
 rw [Nat.mod_add_mod]
theorem ringW_get {t:W}{n i:Nat}(h:i<t.length):(ringW t n)[i]?=some (ringAt t n i):=by
 rw [ringW,List.getElem?_map,List.getElem?_range h];rfl
theorem sorted_same:∀ {xs ys:List W},xs.Perm ys->xs.Pairwise (fun a b=>¬ b<a)->ys.Pairwise (fun a b=>¬ b<a)->xs=ys:=by
 intro xs ys h h1 h2
 refine List.Perm.eq_of_pairwise ?_ h1 h2 h
 intro a b _ _ z1 z2
 exact Std.Trichotomous.trichotomous a b z2 z1
end Wd
namespace Hg
variable {bg en:List Nat->List Nat}
inductive Rch (bg en:List Nat->List Nat)(ms:List (List Nat))(p:List Nat):List Nat->Prop
 | self:Rch bg en ms p p
 | fw {w:List Nat}:w∈ms->Rch bg en ms p (bg w)->Rch bg en ms p (en w)
 | bw {w:List Nat}:w∈ms->Rch bg en ms p (en w)->Rch bg en ms p (bg w)
def Cl (bg en:List Nat->List Nat)(ls:List (List Nat))(w:List Nat):Prop:=bg w∈ls↔en w∈ls
set_option genInjectivity false in
structure Pass (bg en:List Nat->List Nat)(ms:List (List Nat))(p:List Nat)(fs:List (List Nat))(i:Nat)(ls:List (List Nat)):Prop where
 nd:ls.Nodup
 pre:fs <+: ls
 rch:∀ z∈ls,Rch bg en ms p z
 cl:ls.length=fs.length->∀ w∈ms.take i,Cl bg en fs w
theorem nd_len {α:Type}[BEq α][LawfulBEq α]:∀ {ls ms:List α},ls.Nodup->(∀ z∈ls,z∈ms)->ls.length<=ms.length
 | [],_,_,_=>Nat.zero_le _
 | a::ls,ms,h,hs=>by
  rw [List.nodup_cons] at h
  have ha:=hs a (List.mem_cons_self ..)
  have ih:=nd_len (ls:=ls) (ms:=ms.erase a) h.2 fun z hz=>(List.mem_erase_of_ne (fun e:z=a=>h.1 (e▸hz))).mpr (hs z (List.mem_cons_of_mem _ hz))
  have:=List.length_erase_of_mem ha
  have:=List.length_pos_of_mem ha
  rw [List.length_cons]
  omega
end Hg
namespace Dt
def PrimeN (N:Nat):Prop:=1<N∧∀ x,0<x->x<N->Nat.gcd x N=1
section
variable {N F b d e n:Nat}
def pm (N:Nat):Nat->Nat->Nat->Nat
 | 0,_,_=>1 % N
 | f+1,b,e=>if e=0 then 1 % N else if e % 2=1 then b*pm N f (b*b % N) (e/2) % N else pm N f (b*b % N) (e/2)
theorem pow_mod2 (N b e:Nat):(b*b % N) ^ e % N=b ^ (2*e) % N:=by
 rw [<- Nat.pow_mod,Nat.pow_mul,Nat.pow_two]
theorem pm_eq:∀ (f b e:Nat),e<2 ^ f->pm N f b e=b ^ e % N
 | 0,b,e,h=>by
  obtain rfl:e=0:=by simpa using h
  rfl
 | f+1,b,e,h=>by
  unfold pm
  by_cases h0:e=0
  ·rw [if_pos h0,h0,Nat.pow_zero]
  ·rw [if_neg h0]
   have ih:=pm_eq f (b*b % N) (e/2) (by rw [Nat.pow_succ] at h;omega)
   by_cases h1:e % 2=1
   ·rw [if_pos h1,ih,Nat.mul_mod,Nat.mod_mod,pow_mod2,<- Nat.mul_mod,Nat.mul_comm,<- Nat.pow_succ]
    congr 2
    omega
   ·rw [if_neg h1,ih,pow_mod2]
    congr 2
    omega
theorem ord_mod {b d:Nat}(hd:1<d){x y:Nat}(hx:b ^ x % d=1)(hy:b ^ y % d=1):b ^ (y % x) % d=1:=by
 have e:b ^ y=(b ^ x) ^ (y/x)*b ^ (y % x):=by rw [<- Nat.pow_mul,<- Nat.pow_add,Nat.div_add_mod]
 rw [e,Nat.mul_mod,Nat.pow_mod,hx,Nat.one_pow,Nat.mod_eq_of_lt hd,Nat.one_mul,Nat.mod_mod] at hy
 exact hy
theorem ord_gcd {b d:Nat}(hd:1<d):∀ (x y:Nat),b ^ x % d=1->b ^ y % d=1->b ^ (Nat.gcd x y) % d=1:=fun x y=>by
 induction x,y using Nat.gcd.induction with
 | H0 y=>intro _ h;rw [Nat.gcd_zero_left];exact h
 | H1 x y hx ih =>
  intro h1 h2
  rw [Nat.gcd_rec]
  exact ih (ord_mod hd h1 h2) h1
theorem order_prime (rs:List Nat)(hN:1<N)(hF:N<=F*F)(h1:b ^ F % N=1)(h2:∀ r∈rs,Nat.gcd (b ^ (F/r) % N+(N-1)) N=1)(h3:∀ g,g∣F->g<F->∃ r∈rs,g∣F/r):PrimeN N:=by
 have key:∀ d,d∣N->1<d->F<d:=fun d hdN hd=>by
  have hdF:b ^ F % d=1:=by
   have:=Nat.mod_mod_of_dvd (b ^ F) hdN
   rw [h1,Nat.mod_eq_of_lt hd] at this
   exact this.symm
  have no:∀ e,0<e->e<F->b ^ e % d≠1:=fun e he heF hc=>by
   have hg:=ord_gcd hd e F hc hdF
   have hgF:=Nat.gcd_dvd_right e F
   have hge:Nat.gcd e F<=e:=Nat.gcd_le_left F he
   obtain ⟨r,hr,hgr⟩:=h3 _ hgF (by omega)
   obtain ⟨q,hq⟩:=hgr
   have hFr:b ^ (F/r) % d=1:=by rw [hq,Nat.pow_mul,Nat.pow_mod,hg,Nat.one_pow,Nat.mod_eq_of_lt hd]
   have hdd:d∣b ^ (F/r) % N+(N-1):=by
    have e1:b ^ (F/r) % N % d=1:=by rw [Nat.mod_mod_of_dvd _ hdN];exact hFr
    refine Nat.dvd_of_mod_eq_zero ?_
    have e2:(b ^ (F/r) % N+(N-1)) % d=(1+(N-1)) % d:=by rw [Nat.add_mod,e1,Nat.add_mod_mod]
    rw [e2,show 1+(N-1)=N by omega]
    exact Nat.mod_eq_zero_of_dvd hdN
   have:=Nat.dvd_gcd hdd hdN
   rw [h2 r hr] at this
   have:=Nat.le_of_dvd (by omega) this
   omega
  have inj:((List.range F).map fun i=>b ^ i % d).Nodup:=by
   refine List.pairwise_map.mpr (List.Pairwise.imp_of_mem (fun {i j} hi hj hij he=>?_) List.pairwise_lt_range)
   have hj:j<F:=List.mem_range.mp hj
   refine no (j-i) (by omega) (by omega) ?_
   have a1:b ^ (F-i)*b ^ i % d=1:=by rw [<- Nat.pow_add,Nat.sub_add_cancel (by omega)];exact hdF
   have a2:b ^ (F-i)*b ^ j % d=b ^ (j-i) % d:=by
    rw [<- Nat.pow_add,show F-i+j=F+(j-i) by omega,Nat.pow_add,Nat.mul_mod,hdF,Nat.one_mul,Nat.mod_mod]
   rw [<- a2,Nat.mul_mod,<- he,<- Nat.mul_mod]
   exact a1
  have sub:∀ z∈(List.range F).map (fun i=>b ^ i % d),z∈List.range' 1 (d-1):=fun z hz=>by
   obtain ⟨i,hi,rfl⟩:=List.mem_map.mp hz
   have hi:i<F:=List.mem_range.mp hi
   rw [List.mem_range'_1]
   have hlt:=Nat.mod_lt (b ^ i) (show d>0 by omega)
   have hnz:b ^ i % d≠0:=fun z=>by
    have a1:b ^ (F-i)*b ^ i % d=1:=by rw [<- Nat.pow_add,Nat.sub_add_cancel (by omega)];exact hdF
    rw [Nat.mul_mod,z,Nat.mul_zero,Nat.zero_mod] at a1
    cases a1
   omega
  have:=Hg.nd_len inj sub
  rw [List.length_map,List.length_range,List.length_range'] at this
  omega
 refine ⟨hN,fun x h0 hx=>?_⟩
 refine Classical.byContradiction fun hg=>?_
 have hgN:=Nat.gcd_dvd_right x N
 have hgx:Nat.gcd x N<=x:=Nat.gcd_le_left N h0
 have hgp:0<Nat.gcd x N:=Nat.gcd_pos_of_pos_left N h0
 obtain ⟨c,hc⟩:=hgN
 have k1:=key _ (Nat.gcd_dvd_right x N) (by omega)
 have hc1:1<c:=by
  rcases Nat.lt_or_ge 1 c with z | z
  ·exact z
  ·have:Nat.gcd x N*c<=Nat.gcd x N*1:=Nat.mul_le_mul_left _ z
   omega
 have k2:=key c ⟨_,by rw [Nat.mul_comm];exact hc⟩ hc1
 have:=Nat.mul_lt_mul'' k1 k2
 omega
theorem pow2_dvd {k g:Nat}(h:g∣2 ^ (k+1))(hl:g<2 ^ (k+1)):g∣2 ^ (k+1)/2:=by
 obtain ⟨c,hc⟩:=h
 have hc2:c % 2=0:=by
  refine Classical.byContradiction fun z=>?_
  have hco:Nat.Coprime c 2:=by
   show Nat.gcd c 2=1
   rw [Nat.gcd_comm,Nat.gcd_rec,show c % 2=1 by omega]
   rfl
  have h1:=Nat.Coprime.pow_right (k+1) hco
  have h2:c∣2 ^ (k+1):=⟨g,by rw [hc,Nat.mul_comm]⟩
  have h3:=Nat.Coprime.eq_one_of_dvd h1 h2
  rw [h3,Nat.mul_one] at hc
  omega
 refine ⟨c/2,?_⟩
 rw [hc]
 have:c=2*(c/2):=by omega
 rw [Nat.mul_div_assoc _ (Nat.dvd_of_mod_eq_zero hc2)]
theorem proth (h k:Nat)(hh:h<2 ^ (k+1))(h0:0<h)(hp:pm (h*2 ^ (k+1)+1) (k+1+k+1) 3 (h*2 ^ k)=h*2 ^ (k+1)):PrimeN (h*2 ^ (k+1)+1):=by
 have hpos:0<2 ^ k:=Nat.pow_pos (by decide)
 have hs:2 ^ (k+1)=2*2 ^ k:=by rw [Nat.pow_succ,Nat.mul_comm]
 have hN:1<h*2 ^ (k+1)+1:=by have:=Nat.mul_pos h0 (Nat.pow_pos (n:=k+1) (show 0<2 by decide));omega
 have hlt:h*2 ^ k<2 ^ (k+1+k+1):=by
  have:=Nat.mul_lt_mul_of_lt_of_le hh (Nat.le_refl (2 ^ k)) hpos
  rw [<- Nat.pow_add] at this
  exact Nat.lt_trans this (Nat.pow_lt_pow_right (by decide) (by omega))
 rw [pm_eq _ _ _ hlt] at hp
 refine order_prime (F:=2 ^ (k+1)) (b:=3 ^ h) [2] hN ?_ ?_ ?_ fun g hg hl=>⟨2,by simp,pow2_dvd hg hl⟩
 ·have:=Nat.mul_le_mul_right (2 ^ (k+1)) (show h+1<=2 ^ (k+1) from hh)
  rw [Nat.add_mul] at this
  have:=Nat.pow_pos (n:=k+1) (show 0<2 by decide)
  omega
 ·have e3:3 ^ (h*2 ^ (k+1))=3 ^ (h*2 ^ k)*3 ^ (h*2 ^ k):=by
   rw [hs,show h*(2*2 ^ k)=h*2 ^ k*2 by rw [Nat.mul_comm 2,Nat.mul_assoc],Nat.pow_mul,Nat.pow_two]
  rw [<- Nat.pow_mul,e3,Nat.mul_mod,hp]
  have e:∀ x:Nat,0<x->x*x % (x+1)=1:=fun x hx=>by
   rw [show x*x=1+(x+1)*(x-1) by
    have:x*x=(x-1+1)*x:=by rw [Nat.sub_add_cancel hx]
    have h2:(x+1)*(x-1)=x*(x-1)+(x-1):=by rw [Nat.add_mul,Nat.one_mul]
    have h3:x*x=x*(x-1)+x:=by
     have:x*x=x*(x-1+1):=by rw [Nat.sub_add_cancel hx]
     rw [this,Nat.mul_add,Nat.mul_one]
    omega,Nat.add_mul_mod_self_left,Nat.mod_eq_of_lt (by omega)]
  exact e _ (Nat.mul_pos h0 (Nat.pow_pos (by decide)))
 ·intro r hr
  obtain rfl:=List.mem_singleton.mp hr
  rw [<- Nat.pow_mul,hs,Nat.mul_div_cancel_left _ (by decide),<- hs,hp,Nat.add_sub_cancel]
  have e:∀ x:Nat,x % 2=0->Nat.gcd (x+x) (x+1)=1:=fun x hx=>by
   have:Nat.gcd (x+x) (x+1)∣2:=by
    have a1:=Nat.gcd_dvd_left (x+x) (x+1)
    have a2:=Nat.gcd_dvd_right (x+x) (x+1)
    have a3:=Nat.dvd_sub (Nat.dvd_mul_left_of_dvd a2 2) a1
    rw [show 2*(x+1)-(x+x)=2 by omega] at a3
    exact a3
   have hle:=Nat.le_of_dvd (by decide) this
   have hpos:=Nat.gcd_pos_of_pos_right (x+x) (show 0<x+1 by omega)
   rcases Nat.lt_or_ge (Nat.gcd (x+x) (x+1)) 2 with z | z
   ·omega
   ·have e2:Nat.gcd (x+x) (x+1)=2:=by omega
    have a2:=Nat.gcd_dvd_right (x+x) (x+1)
    rw [e2] at a2
    omega
  refine e _ ?_
  rw [hs,<- Nat.mul_assoc,Nat.mul_comm h 2,Nat.mul_assoc]
  exact Nat.mul_mod_right ..
theorem pr133:PrimeN (133*2 ^ 192+1):=proth 133 191 (by decide +kernel) (by decide) (by decide +kernel)
end
end Dt
namespace Dt
section
variable {N F b d e n:Nat}
def primeB (N:Nat):Bool:=decide (1<N)&&(List.range N).all fun x=>x==0||Nat.gcd x N==1
theorem primeB_of (h:primeB N=true):PrimeN N:=by
 unfold primeB at h
 rw [Bool.and_eq_true,decide_eq_true_iff,List.all_eq_true] at h
 refine ⟨h.1,fun x h0 hx=>?_⟩
 have:=h.2 x (List.mem_range.mpr hx)
 rw [Bool.or_eq_true,beq_iff_eq,beq_iff_eq] at this
 omega
theorem PrimeN.cop {r c:Nat}(h:PrimeN r)(hc:¬ r∣c):Nat.Coprime c r:=by
 show Nat.gcd c r=1
 rw [Nat.gcd_comm,Nat.gcd_rec]
 have h1:=h.1
 exact h.2 (c % r) (Nat.pos_of_ne_zero fun z=>hc (Nat.dvd_of_mod_eq_zero z)) (Nat.mod_lt _ (by omega))
theorem dvd_list:∀ (rs:List Nat),(∀ r∈rs,PrimeN r)->∀ c,c∣rs.prod->c≠1->∃ r∈rs,r∣c
 | [],_,c,h,h1=>absurd (Nat.eq_one_of_dvd_one h) h1
 | r::rs,hp,c,h,h1=>by
  by_cases hr:r∣c
  ·exact ⟨r,by simp,hr⟩
  ·rw [List.prod_cons] at h
   obtain ⟨r',h2,h3⟩:=dvd_list rs (fun x hx=>hp x (List.mem_cons_of_mem _ hx)) c (Nat.Coprime.dvd_of_dvd_mul_left ((hp r (by simp)).cop hr) h) h1
   exact ⟨r',List.mem_cons_of_mem _ h2,h3⟩
theorem mers:PrimeN 2305843009213693951:=by
 have ps:∀ r∈[61,151,331,1321],PrimeN r:=fun r hr=>primeB_of (by
  have:∀ r∈[61,151,331,1321],primeB r=true:=by decide +kernel
  exact this r hr)
 refine order_prime (F:=4027518961) (b:=429339995019680672) [61,151,331,1321] (by decide) (by decide) ?_ ?_ fun g hg hl=>?_
 ·rw [<- pm_eq 32 _ _ (by decide)]
  decide +kernel
 ·intro r hr
  have key:∀ r∈[61,151,331,1321],Nat.gcd (pm 2305843009213693951 32 429339995019680672 (4027518961/r)+(2305843009213693951-1)) 2305843009213693951=1:=by decide +kernel
  rw [<- pm_eq 32 _ _ (Nat.lt_of_le_of_lt (Nat.div_le_self _ _) (by decide))]
  exact key r hr
 ·obtain ⟨c,hc⟩:=hg
  have hF:([61,151,331,1321]:List Nat).prod=4027518961:=by decide
  obtain ⟨r,hr,q,rfl⟩:=dvd_list _ ps c (by rw [hF];exact ⟨g,by rw [hc,Nat.mul_comm]⟩) fun z=>by rw [z,Nat.mul_one] at hc;omega
  have h0:=(ps r hr).1
  refine ⟨r,hr,q,?_⟩
  rw [hc,show g*(r*q)=r*(g*q) by rw [<- Nat.mul_assoc,Nat.mul_comm g r,Nat.mul_assoc],Nat.mul_div_cancel_left _ (by omega)]
theorem pr211:PrimeN (211*2 ^ 192+1):=proth 211 191 (by decide +kernel) (by decide) (by decide +kernel)
theorem pr598:PrimeN (598*2 ^ 192+1):=proth 598 191 (by decide +kernel) (by decide) (by decide +kernel)
theorem pr652:PrimeN (652*2 ^ 192+1):=proth 652 191 (by decide +kernel) (by decide) (by decide +kernel)
theorem pr721:PrimeN (721*2 ^ 192+1):=proth 721 191 (by decide +kernel) (by decide) (by decide +kernel)
theorem pr850:PrimeN (850*2 ^ 192+1):=proth 850 191 (by decide +kernel) (by decide) (by decide +kernel)
theorem pr1282:PrimeN (1282*2 ^ 192+1):=proth 1282 191 (by decide +kernel) (by decide) (by decide +kernel)
set_option genInjectivity false in
structure Euc (pr:Nat)(num:Int)(last rest:Nat)(lt t:Int):Prop where
 pos:1<=rest
 lp:1<=last
 cop:Nat.gcd rest last=1
 ct:Cg pr (t*num) rest
 cl:Cg pr (lt*num) last
 bd:t.natAbs*last+lt.natAbs*rest<=pr
theorem Euc.init {pr:Nat}{num:Int}{r:Nat}(h:PrimeN pr)(hr:num % pr=r)(h0:r≠0):Euc pr num pr r 0 1:=by
 have h1:=h.1
 have hlt:(r:Int)<pr:=by rw [<- hr];exact Int.emod_lt_of_pos _ (by omega)
 refine ⟨by omega,by omega,h.2 r (by omega) (by omega),?_,?_,by simp⟩
 ·rw [Int.one_mul,<- hr]
  exact (cg_mod num).symm
 ·rw [Int.zero_mul]
  unfold Cg
  rw [Int.zero_sub]
  exact Int.dvd_neg.mpr (Int.dvd_refl _)
theorem Euc.step {pr:Nat}{num:Int}{last rest:Nat}{lt t:Int}(h:Euc pr num last rest lt t)(h1:rest≠1):Euc pr num rest (last % rest) t (lt-(last/rest:Nat)*t):=by
 have hp:=h.pos
 have hd:=Nat.div_add_mod last rest
 have hd2:((last:Nat):Int)=rest*(last/rest:Nat)+(last % rest:Nat):=by exact_mod_cast hd.symm
 refine ⟨?_,hp,?_,?_,h.ct,?_⟩
 ·refine Nat.pos_of_ne_zero fun z=>h1 ?_
  have:=h.cop
  rw [Nat.gcd_eq_left (Nat.dvd_of_mod_eq_zero z)] at this
  exact this
 ·rw [<- Nat.gcd_rec]
  exact h.cop
 ·have e:(lt-(last/rest:Nat)*t)*num=lt*num-(last/rest:Nat)*(t*num):=by rw [Int.sub_mul,Int.mul_assoc]
  rw [e,show ((last % rest:Nat):Int)=(last:Int)-(last/rest:Nat)*(rest:Int) by rw [hd2,Int.mul_comm];omega]
  exact h.cl.sub ((Cg.refl _).mul h.ct)
 ·have hb:=h.bd
  have a1:(lt-(last/rest:Nat)*t).natAbs<=lt.natAbs+(last/rest)*t.natAbs:=by
   have:=Int.natAbs_sub_le lt ((last/rest:Nat)*t)
   rw [Int.natAbs_mul,Int.natAbs_natCast] at this
   exact this
  have a2:=Nat.mul_le_mul_right rest a1
  rw [Nat.add_mul] at a2
  have a3:t.natAbs*last=(last/rest)*t.natAbs*rest+t.natAbs*(last % rest):=by
   conv=>lhs;rw [<- hd,Nat.mul_add,<- Nat.mul_assoc,Nat.mul_comm t.natAbs rest,Nat.mul_assoc,Nat.mul_comm rest]
   rw [Nat.mul_comm t.natAbs]
  omega
theorem Euc.tle {pr:Nat}{num:Int}{last rest:Nat}{lt t:Int}(h:Euc pr num last rest lt t):t.natAbs<=pr∧lt.natAbs<=pr:=by
 have hb:=h.bd
 have h1:=Nat.mul_le_mul_left t.natAbs h.lp
 have h2:=Nat.mul_le_mul_left lt.natAbs h.pos
 omega
theorem Euc.fin {pr:Nat}{num:Int}{last rest:Nat}{lt t:Int}(h:Euc pr num last rest lt t)(h1:rest=1):Cg pr (t % pr*num) 1:=by
 have:=h.ct
 rw [h1] at this
 exact ((cg_mod t).mul (Cg.refl num)).trans this
theorem crt {M1 pr:Nat}{D res r2 inv:Int}(hM:0<M1)(hp:0<pr)(h1:Cg M1 res D)(h2:Cg pr r2 D)(hi:Cg pr (inv*M1) 1)(h0:0<=res∧res<M1):Cg (M1*pr:Nat) (res+(r2-res)*inv % pr*M1) D∧0<=res+(r2-res)*inv % pr*M1∧res+(r2-res)*inv % pr*M1<(M1*pr:Nat):=by
 have e0:=Int.emod_nonneg ((r2-res)*inv) (show (pr:Int)≠0 by omega)
 have e1:=Int.emod_lt_of_pos ((r2-res)*inv) (show (0:Int)<pr by omega)
 have hc:=cg_mod (m:=pr) ((r2-res)*inv)
 generalize (r2-res)*inv % pr=q at e0 e1 hc
 refine ⟨?_,?_,?_⟩
 ·have a1:Cg M1 (res+q*M1) D:=by
   have:Cg M1 (q*M1) 0:=by
    unfold Cg
    rw [Int.sub_zero]
    exact Int.dvd_mul_left ..
   have:=h1.add this
   rwa [Int.add_zero] at this
  have a2:Cg pr (res+q*M1) D:=by
   have b1:Cg pr (q*M1) (r2-res):=by
    refine (hc.mul (Cg.refl (M1:Int))).trans ?_
    rw [Int.mul_assoc]
    have:=(Cg.refl (m:=pr) (r2-res)).mul hi
    rwa [Int.mul_one] at this
   have:=(Cg.refl (m:=pr) res).add b1
   rw [show res+(r2-res)=r2 by omega] at this
   exact this.trans h2
  unfold Cg at a1 a2 hi ⊢
  obtain ⟨x,hx⟩:=a1
  rw [hx] at a2 ⊢
  have a3:(pr:Int)∣x:=by
   have c1:(pr:Int)∣inv*(M1*x):=Int.dvd_mul_of_dvd_right a2
   have c2:(pr:Int)∣(inv*M1-1)*x:=Int.dvd_mul_of_dvd_left hi
   have:=Int.dvd_sub c1 c2
   rw [show inv*(M1*x)-(inv*M1-1)*x=x by rw [Int.sub_mul,Int.mul_assoc];omega] at this
   exact this
  obtain ⟨y,rfl⟩:=a3
  refine ⟨y,?_⟩
  rw [<- Int.mul_assoc,Int.natCast_mul]
 ·have:=Int.mul_nonneg e0 (show (0:Int)<=M1 by omega)
  omega
 ·have a:=Int.mul_le_mul_of_nonneg_right (show q<=(pr:Int)-1 by omega) (show (0:Int)<=M1 by omega)
  rw [Int.sub_mul,Int.one_mul] at a
  rw [Int.natCast_mul,Int.mul_comm (M1:Int)]
  omega
theorem from_rest {M:Nat}{D res bd:Int}(hm:2*bd<M)(hD : -bd<=D∧D<=bd)(h:Cg M res D)(h0:0<=res∧res<M):(if bd<res then res-M else res)=D:=by
 obtain ⟨k,hk⟩:=h
 have k0:k=0∨k=1:=by
  rcases Int.lt_or_le k 0 with z | z
  ·have:=Int.mul_le_mul_of_nonneg_left (show k<=-1 by omega) (show (0:Int)<=M by omega)
   omega
  ·rcases Int.lt_or_le 1 k with y | y
   ·have:=Int.mul_le_mul_of_nonneg_left (show 2<=k by omega) (show (0:Int)<=M by omega)
    omega
   ·omega
 rcases k0 with rfl | rfl
 ·rw [Int.mul_zero] at hk
  rw [if_neg (by omega)]
  omega
 ·rw [Int.mul_one] at hk
  rw [if_pos (by omega)]
  omega
end
end Dt
namespace Dt
theorem rest_step {pr p:Nat}{rest top0 inv dN dM D:Int}(hr:0<rest∧rest<pr)(hi:Cg pr (inv*top0) 1)(hE:Cg pr dN (sg p*(top0*dM)))(hD:Cg pr (rest*dN) D) :
  (0<(if p % 2=1 then (pr:Int)-rest*top0 % pr else rest*top0 % pr)∧(if p % 2=1 then (pr:Int)-rest*top0 % pr else rest*top0 % pr)<pr)∧Cg pr ((if p % 2=1 then (pr:Int)-rest*top0 % pr else rest*top0 % pr)*dM) D:=by
 have h0:=Int.emod_nonneg (rest*top0) (show (pr:Int)≠0 by omega)
 have h1:=Int.emod_lt_of_pos (rest*top0) (show (0:Int)<pr by omega)
 have hc:=cg_mod (m:=pr) (rest*top0)
 have hnz:rest*top0 % pr≠0:=fun z=>by
  rw [z] at hc
  have a1:=(hc.mul (Cg.refl (m:=pr) inv))
  rw [Int.zero_mul,Int.mul_assoc,Int.mul_comm top0] at a1
  have a2:=(Cg.refl (m:=pr) rest).mul hi
  rw [Int.mul_one] at a2
  have a3:=a1.trans a2
  unfold Cg at a3
  rw [Int.zero_sub] at a3
  have:=Int.le_of_dvd hr.1 (Int.dvd_neg.mp a3)
  omega
 generalize rest*top0 % pr=x at h0 h1 hc hnz
 have key:Cg pr (x*dM) (rest*(top0*dM)):=by
  rw [<- Int.mul_assoc]
  exact hc.mul (Cg.refl _)
 have hE2:=((Cg.refl (m:=pr) rest).mul hE).symm.trans hD
 by_cases hp:p % 2=1
 ·rw [if_pos hp]
  have hs:sg p = -1:=by unfold sg;rw [if_neg (by omega)]
  rw [hs] at hE2
  refine ⟨⟨by omega,by omega⟩,?_⟩
  have a1:Cg pr (((pr:Int)-x)*dM) (-(x*dM)):=by
   unfold Cg
   rw [Int.sub_mul,show (pr:Int)*dM-x*dM - -(x*dM)=pr*dM by omega]
   exact Int.dvd_mul_right ..
  refine a1.trans (key.neg.trans ?_)
  rw [show -(rest*(top0*dM))=rest*(-1*(top0*dM)) by rw [Int.neg_mul,Int.one_mul,Int.mul_neg]]
  exact hE2
 ·rw [if_neg hp]
  have hs:sg p=1:=by unfold sg;rw [if_pos (by omega)]
  rw [hs,Int.one_mul] at hE2
  exact ⟨⟨by omega,h1⟩,key.trans hE2⟩
end Dt
namespace Dt
def pL:List Nat->Nat
 | []=>1
 | x::l=>x*pL l
theorem pL_snoc (x:Nat):∀ l:List Nat,pL (l++[x])=pL l*x
 | []=>by show x*1=1*x;omega
 | y::l=>by
  show y*pL (l++[x])=y*pL l*x
  rw [pL_snoc x l,Nat.mul_assoc]
theorem pL_le {R:Nat}:∀ {l:List Nat},(∀ x∈l,x<=R)->pL l<=R ^ l.length
 | [],_=>Nat.le_refl _
 | y::l,h=>by
  show y*pL l<=R ^ (l.length+1)
  rw [Nat.pow_succ,Nat.mul_comm]
  exact Nat.mul_le_mul (pL_le fun x hx=>h x (List.mem_cons_of_mem _ hx)) (h y (List.mem_cons_self ..))
def rs (n:Nat)(r:List Int):Nat:=sN n fun k=>(r.getD k 0).natAbs
theorem pL_pN (n:Nat):∀ M:List (List Int),pN M.length (fun i=>sN n fun k=>(ent M i k).natAbs)=pL (M.map (rs n))
 | []=>rfl
 | r::M=>by
  show (sN n fun k=>(ent (r::M) 0 k).natAbs)*pN M.length (fun i=>sN n fun k=>(ent (r::M) (i+1) k).natAbs)=rs n r*pL (M.map (rs n))
  rw [<- pL_pN n M]
  rfl
theorem sN_mem {f:Nat->Nat}:∀ {n k:Nat},k<n->f k<=sN n f
 | n+1,k,h=>by
  show f k<=sN n f+f n
  rcases Nat.lt_or_ge k n with z | z
  ·have:=sN_mem (f:=f) z
   omega
  ·rw [show k=n by omega]
   omega
theorem rs_mem {n:Nat}{r:List Int}(hl:r.length=n){x:Int}(hx:x∈r):x.natAbs<=rs n r:=by
 obtain ⟨k,hk⟩:=List.getElem?_of_mem hx
 have hkl:=(List.getElem?_eq_some_iff.mp hk).1
 have:=sN_mem (f:=fun k=>(r.getD k 0).natAbs) (n:=n) (k:=k) (by omega)
 rw [List.getD_eq_getElem?_getD,hk] at this
 exact this
theorem det_le {M:List (List Int)}{n:Nat}(h:M.length=n):(det n (ent M)).natAbs<=pL (M.map (rs n)):=by
 rw [<- pL_pN,h]
 exact det_bound
def kn:List Nat:=[133,211,598,652,721,850,1282]
def pr (j:Nat):Nat:=kn.getD j 0*2 ^ 192+1
def md:Nat->Nat
 | 0=>2305843009213693951
 | j+1=>md j*pr j
theorem pr_prime:∀ {j:Nat},j<7->PrimeN (pr j)
 | 0,_=>pr133
 | 1,_=>pr211
 | 2,_=>pr598
 | 3,_=>pr652
 | 4,_=>pr721
 | 5,_=>pr850
 | 6,_=>pr1282
 | j+7,h=>by omega
theorem pr_ok:∀ j,j<7->pr j<2 ^ 250∧md j % pr j≠0∧md j<2 ^ 1600∧md (j+1)<2 ^ 1800:=by decide +kernel
end Dt
namespace Dt
section
variable {n m p q i j k l:Nat}{A B T U:Mx}{f g:Nat->Int}{c:Nat->Int}
theorem det_zrow (h:i<n):det n (setR A i fun _=>0)=0:=by
 have e:=det_lin (c:=1) (A:=A) (u:=fun _=>0) (v:=fun _=>0) h
 rw [show (fun k:Nat=>(0:Int)+1*0)=fun _=>0 from rfl] at e
 omega
def pI:Nat->(Nat->Int)->Int
 | 0,_=>1
 | n+1,f=>pI n f*f n
theorem pI_first:∀ {n:Nat} {f:Nat->Int},pI (n+1) f=f 0*pI n fun i=>f (i+1)
 | 0,f=>by show 1*f 0=f 0*1;omega
 | n+1,f=>by
  show pI (n+1) f*f (n+1)=f 0*(pI n (fun i=>f (i+1))*f (n+1))
  rw [pI_first (n:=n),Int.mul_assoc]
theorem pI_one:∀ {n:Nat} {f:Nat->Int},(∀ i,i<n->f i=1)->pI n f=1
 | 0,_,_=>rfl
 | n+1,f,h=>by
  show pI n f*f n=1
  rw [pI_one (n:=n) fun i hi=>h i (by omega),h n (by omega)]
  rfl
theorem det_upper:∀ {n:Nat} {U:Mx},(∀ i k,k<i->i<n->U i k=0)->det n U=pI n fun i=>U i i
 | 0,_,_=>rfl
 | n+1,U,h=>by
  rw [col0 fun i hi=>h (i+1) 0 (by omega) (by omega),det_upper (n:=n) fun i k h1 h2=>h (i+1) (k+1) (by omega) (by omega),pI_first]
end
end Dt
namespace Dt
section
variable {n i j k l m:Nat}{A B:Mx}{f:Nat->Nat}{c:Int}
theorem addRow (hi:i<n)(hj:j<n)(hij:i≠j):det n (setR A i fun k=>A i k+c*A j k)=det n A:=by
 have e:=det_lin (c:=c) (A:=A) (u:=A i) (v:=A j) hi
 have z:det n (setR A i (A j))=0:=by
  rcases Nat.lt_or_ge i j with h | h
  ·refine alt_far (j-(i+1)) (i:=i) (A:=setR A i (A j)) (by omega) fun k _=>?_
   rw [setR_at,show i+1+(j-(i+1))=j by omega,setR_ne (by omega)]
  ·refine alt_far (i-(j+1)) (i:=j) (A:=setR A i (A j)) (by omega) fun k _=>?_
   rw [setR_ne (by omega),show j+1+(i-(j+1))=i by omega,setR_at]
 rw [z,det_self (A i) fun _=>rfl,Int.mul_zero,Int.add_zero] at e
 exact e
def un (i k:Nat):Int:=if k=i then 1 else 0
def chM (n:Nat)(f:Nat->Nat):Mx:=fun i k=>un i k-if f i<n then un (f i) k else 0
def chS (n:Nat)(f:Nat->Nat)(S:Nat->Bool):Mx:=fun i k=>if S i=true then un i k else chM n f i k
theorem chS_congr {S S':Nat->Bool}{a:Nat}(h:S a=S' a):chS n f S a k=chS n f S' a k:=by
 unfold chS
 rw [h]
theorem chS_add {S:Nat->Bool}(hi:i<n)(hS:S i=false)(hf:f i<n->S (f i)=true):det n (chS n f fun a=>S a||a==i)=det n (chS n f S):=by
 by_cases h:f i<n
 ·have hne:i≠f i:=fun z=>by have:=hf h;rw [<- z,hS] at this;cases this
  rw [<- addRow (A:=chS n f S) (i:=i) (j:=f i) (c:=1) hi h hne]
  refine det_congr fun a k _ _=>?_
  unfold setR
  try dsimp only
  by_cases ha:a=i
  ·subst ha
   rw [if_pos rfl]
   unfold chS
   try dsimp only
   rw [if_pos (by rw [beq_self_eq_true,Bool.or_true]),if_neg (by rw [hS];exact Bool.false_ne_true),if_pos (hf h)]
   unfold chM
   rw [if_pos h]
   omega
  ·rw [if_neg ha]
   exact chS_congr (by rw [beq_false_of_ne ha,Bool.or_false])
 ·refine det_congr fun a k _ _=>?_
  by_cases ha:a=i
  ·subst ha
   unfold chS
   try dsimp only
   rw [if_pos (by rw [beq_self_eq_true,Bool.or_true]),if_neg (by rw [hS];exact Bool.false_ne_true)]
   unfold chM
   rw [if_neg h,Int.sub_zero]
  ·exact chS_congr (by rw [beq_false_of_ne ha,Bool.or_false])
theorem det_un:∀ n:Nat,det n un=1
 | n=>by
  rw [det_upper (n:=n) fun i k h1 _=>by unfold un;rw [if_neg (by omega)]]
  exact pI_one fun i _=>by unfold un;rw [if_pos rfl]
theorem ch_out {d:Nat->Nat}(hd:∀ i,i<n->f i<n->d (f i)<d i):det n (chM n f)=1:=by
 have key:∀ m l,l<=n->det n (chS n f fun a=>decide (d a<m)||(decide (d a=m)&&decide (a<l)))=det n (chM n f):=fun m=>by
  induction m with
  | zero =>
   intro l
   induction l with
   | zero =>
    intro _
    refine det_congr fun a k _ _=>?_
    unfold chS
    try dsimp only
    rw [if_neg (by simp)]
   | succ l ih =>
    intro hl
    rw [<- ih (by omega)]
    by_cases h:d l=0
    ·have:=chS_add (n:=n) (f:=f) (i:=l) (S:=fun a=>decide (d a<0)||(decide (d a=0)&&decide (a<l))) (by omega) (by simp) (fun hf=>by have:=hd l (by omega) hf;omega)
     rw [<- this]
     congr 2
     funext a
     by_cases ha:a=l
     ·subst ha
      simp [h]
     ·have e:decide (a<l+1)=decide (a<l):=by rw [decide_eq_decide];omega
      rw [e,beq_false_of_ne ha,Bool.or_false]
    ·congr 2
     funext a
     by_cases ha:a=l
     ·subst ha
      simp [h]
     ·have e:decide (a<l+1)=decide (a<l):=by rw [decide_eq_decide];omega
      rw [e]
  | succ m ihm =>
   intro l
   induction l with
   | zero =>
    intro _
    rw [<- ihm n (Nat.le_refl n)]
    refine det_congr fun a k ha _=>?_
    have e:(decide (d a<m+1)||(decide (d a=m+1)&&decide (a<0)))=(decide (d a<m)||(decide (d a=m)&&decide (a<n))):=by
     rw [decide_eq_false (show ¬ a<0 by omega),decide_eq_true ha,Bool.and_false,Bool.or_false,Bool.and_true,Bool.eq_iff_iff,Bool.or_eq_true,decide_eq_true_iff,decide_eq_true_iff,decide_eq_true_iff]
     omega
    exact chS_congr e
   | succ l ih =>
    intro hl
    rw [<- ih (by omega)]
    by_cases h:d l=m+1
    ·have:=chS_add (n:=n) (f:=f) (i:=l) (S:=fun a=>decide (d a<m+1)||(decide (d a=m+1)&&decide (a<l))) (by omega) (by simp [h]) (fun hf=>by
      have:=hd l (by omega) hf
      have:d (f l)<m+1:=by omega
      simp [this])
     rw [<- this]
     congr 2
     funext a
     by_cases ha:a=l
     ·subst ha
      simp [h]
     ·have e:decide (a<l+1)=decide (a<l):=by rw [decide_eq_decide];omega
      rw [e,beq_false_of_ne ha,Bool.or_false]
    ·congr 2
     funext a
     by_cases ha:a=l
     ·subst ha
      simp [h]
     ·have e:decide (a<l+1)=decide (a<l):=by rw [decide_eq_decide];omega
      rw [e]
 obtain ⟨m,hm⟩:∃ m,∀ i,i<n->d i<m:=by
  have:∀ N,∃ m,∀ i,i<N->d i<m:=fun N=>by
   induction N with
   | zero=>exact ⟨0,fun i h=>by omega⟩
   | succ N ih =>
    obtain ⟨m,hm⟩:=ih
    refine ⟨m+d N+1,fun i h=>?_⟩
    rcases Nat.lt_or_ge i N with z | z
    ·have:=hm i z
     omega
    ·rw [show i=N by omega]
     omega
  exact this n
 rw [<- key m 0 (Nat.zero_le _),<- det_un n]
 refine det_congr fun a k ha _=>?_
 unfold chS
 try dsimp only
 rw [if_pos (by simp [hm a ha])]
def itf (f:Nat->Nat):Nat->Nat->Nat
 | 0,i=>i
 | k+1,i=>f (itf f k i)
theorem ch_round (hi:i<n)(hl:∀ k,k<=m->itf f (k+1) i<n)(hr:itf f (m+1) i=i)(hne:∀ k,0<k->k<=m->itf f k i≠i):det n (chM n f)=0:=by
 have key:∀ k,k<=m->det n (setR (chM n f) i fun l=>un i l-un (itf f (k+1) i) l)=det n (chM n f):=fun k=>by
  induction k with
  | zero =>
   intro _
   refine det_self _ fun l=>?_
   unfold chM
   have:=hl 0 (Nat.zero_le _)
   rw [if_pos (show f i<n from this)]
   rfl
  | succ k ih =>
   intro hk
   rw [<- ih (by omega)]
   have h1:=hl k (by omega)
   have h2:=hl (k+1) hk
   have h3:=hne (k+1) (by omega) hk
   rw [<- addRow (A:=setR (chM n f) i fun l=>un i l-un (itf f (k+1) i) l) (i:=i) (j:=itf f (k+1) i) (c:=1) hi h1 (fun z=>h3 z.symm)]
   refine det_congr fun a l _ _=>?_
   unfold setR
   try dsimp only
   by_cases ha:a=i
   ·subst ha
    rw [if_pos rfl,if_pos rfl,if_pos rfl,if_neg h3]
    unfold chM
    rw [if_pos (show f (itf f (k+1) a)<n from h2)]
    show un a l-un (f (itf f (k+1) a)) l=_
    omega
   ·rw [if_neg ha,if_neg ha,if_neg ha]
 rw [<- key m (Nat.le_refl _),hr,show (fun l=>un i l-un i l)=fun _=>0 by funext l;omega]
 exact det_zrow hi
end
end Dt
namespace Dt
def rowW (n i w:Nat):Nat->Int:=fun k=>un i k-if w<n then un w k else 0
def chA (n:Nat)(Ws:Nat->List Nat)(c:List Nat):Mx:=fun i k=>match c[i]? with
 | some w=>rowW n i w k
 | none=>((Ws i).map fun w=>rowW n i w k).sum
def allC (Ws:Nat->List Nat):Nat->List (List Nat)
 | 0=>[[]]
 | m+1=>(allC Ws m).flatMap fun c=>(Ws m).map fun w=>c++[w]
section
variable {n m i:Nat}{A:Mx}{Ws:Nat->List Nat}{c:List Nat}
theorem allC_len:∀ {m:Nat} {c:List Nat},c∈allC Ws m->c.length=m
 | 0,c,h=>by rw [List.mem_singleton.mp h];rfl
 | m+1,c,h=>by
  obtain ⟨c',h1,h2⟩:=List.mem_flatMap.mp h
  obtain ⟨w,_,rfl⟩:=List.mem_map.mp h2
  rw [List.length_append,allC_len h1]
  rfl
theorem det_sumL {g:Nat->Nat->Int}(hi:i<n):∀ l:List Nat,det n (setR A i fun k=>(l.map fun w=>g w k).sum)=(l.map fun w=>det n (setR A i (g w))).sum
 | []=>det_zrow hi
 | w::l=>by
  have e:=det_add (A:=A) (u:=g w) (v:=fun k=>(l.map fun w=>g w k).sum) hi
  rw [List.map_cons,List.sum_cons,<- det_sumL hi l,<- e]
  rfl
theorem chA_step (hm:c.length=m)(h:m<n):det n (chA n Ws c)=((Ws m).map fun w=>det n (chA n Ws (c++[w]))).sum:=by
 have e1:det n (chA n Ws c)=det n (setR (chA n Ws c) m fun k=>((Ws m).map fun w=>rowW n m w k).sum):=(det_self _ fun k=>by
  show _=match c[m]? with
   | some w=>rowW n m w k
   | none=>((Ws m).map fun w=>rowW n m w k).sum
  rw [List.getElem?_eq_none (by omega)]).symm
 rw [e1,det_sumL h]
 congr 1
 refine List.map_congr_left fun w _=>det_congr fun a k _ _=>?_
 unfold setR chA
 by_cases ha:a=m
 ·subst ha
  rw [if_pos rfl,List.getElem?_append_right (by omega),hm,Nat.sub_self]
  rfl
 ·rw [if_neg ha]
  rcases Nat.lt_or_ge a m with z | z
  ·rw [List.getElem?_append_left (by omega)]
  ·rw [List.getElem?_eq_none (l:=c) (by omega),List.getElem?_eq_none (by rw [List.length_append,List.length_singleton];omega)]
theorem chA_all:∀ {m:Nat},m<=n->det n (chA n Ws [])=((allC Ws m).map fun c=>det n (chA n Ws c)).sum
 | 0,_=>by
  show det n (chA n Ws [])=det n (chA n Ws [])+0
  omega
 | m+1,h=>by
  rw [chA_all (m:=m) (by omega)]
  have key:∀ l:List (List Nat),(∀ c∈l,c.length=m)->(l.map fun c=>det n (chA n Ws c)).sum=((l.flatMap fun c=>(Ws m).map fun w=>c++[w]).map fun c=>det n (chA n Ws c)).sum:=fun l=>by
   induction l with
   | nil=>intro _;rfl
   | cons c l ih =>
    intro hl
    rw [List.map_cons,List.sum_cons,List.flatMap_cons,List.map_append,List.sum_append,ih fun c hc=>hl c (List.mem_cons_of_mem _ hc),chA_step (hl c (List.mem_cons_self ..)) (by omega),List.map_map]
    rfl
  exact key _ fun c hc=>allC_len hc
def goF (n:Nat)(c:List Nat)(i:Nat):Nat:=if i<n then c.getD i n else i
def goN (n:Nat)(c:List Nat):Nat->Nat->Nat
 | 0,i=>i
 | k+1,i=>goF n c (goN n c k i)
def comes (n:Nat)(c:List Nat):Prop:=∀ i,i<n->¬ goN n c n i<n
theorem chA_full (hc:c.length=n):det n (chA n Ws c)=det n (chM n fun i=>c.getD i n):=det_congr fun a k ha _=>by
 unfold chA
 rw [List.getElem?_eq_getElem (show a<c.length by omega)]
 show rowW n a c[a] k=rowW n a (c.getD a n) k
 rw [show c.getD a n=c[a] by rw [List.getD_eq_getElem?_getD,List.getElem?_eq_getElem (show a<c.length by omega)];rfl]
theorem goN_out {k:Nat}(h:¬ i<n):goN n c k i=i:=by
 induction k with
 | zero=>rfl
 | succ k ih =>
  show goF n c (goN n c k i)=i
  rw [ih]
  unfold goF
  rw [if_neg h]
theorem goN_add {k:Nat}:∀ l:Nat,goN n c (l+k) i=goN n c l (goN n c k i)
 | 0=>by rw [Nat.zero_add];rfl
 | l+1=>by
  rw [show l+1+k=(l+k)+1 by omega]
  show goF n c (goN n c (l+k) i)=goF n c (goN n c l (goN n c k i))
  rw [goN_add l]
theorem goN_first {k:Nat}:goN n c (k+1) i=goN n c k (goF n c i):=by
 rw [show k+1=k+1 from rfl,goN_add k]
 rfl
theorem det_comes (h:comes n c):det n (chM n fun i=>c.getD i n)=1:=by
 have ex:∀ i,∃ k,¬ goN n c k i<n:=fun i=>by
  by_cases hi:i<n
  ·exact ⟨n,h i hi⟩
  ·exact ⟨0,hi⟩
 have least:∀ i,∃ k,¬ goN n c k i<n∧∀ j,j<k->goN n c j i<n:=fun i=>by
  obtain ⟨k,hk⟩:=ex i
  induction k with
  | zero=>exact ⟨0,hk,fun j hj=>by omega⟩
  | succ k ih =>
   by_cases h2:goN n c k i<n
   ·refine ⟨k+1,hk,fun j hj=>?_⟩
    refine Classical.byContradiction fun z=>?_
    have:goN n c (k-j+j) i=goN n c j i:=by rw [goN_add];exact goN_out z
    rw [show k-j+j=k by omega] at this
    rw [this] at h2
    exact z h2
   ·exact ih h2
 refine ch_out (d:=fun i=>Classical.choose (least i)) fun i hi hf=>?_
 obtain ⟨a1,a2⟩:=Classical.choose_spec (least i)
 obtain ⟨b1,b2⟩:=Classical.choose_spec (least (c.getD i n))
 have hg:goF n c i=c.getD i n:=by unfold goF;rw [if_pos hi]
 show Classical.choose (least (c.getD i n))<Classical.choose (least i)
 generalize Classical.choose (least i)=ka at a1 a2 ⊢
 generalize Classical.choose (least (c.getD i n))=kb at b1 b2 ⊢
 refine Classical.byContradiction fun z=>?_
 cases ka with
 | zero=>exact a1 hi
 | succ ka =>
  rw [goN_first,hg] at a1
  exact a1 (b2 ka (by omega))
theorem det_round (h:¬ comes n c):det n (chM n fun i=>c.getD i n)=0:=by
 obtain ⟨i,hi,hn⟩:∃ i,i<n∧goN n c n i<n:=by
  refine Classical.byContradiction fun z=>h fun i hi hn=>z ⟨i,hi,hn⟩
 have lt:∀ k,k<=n->goN n c k i<n:=fun k hk=>by
  refine Classical.byContradiction fun z=>?_
  have:goN n c (n-k+k) i=goN n c k i:=by rw [goN_add];exact goN_out z
  rw [show n-k+k=n by omega] at this
  rw [this] at hn
  exact z hn
 obtain ⟨a,b,hab,hb,heq⟩:∃ a b,a<b∧b<=n∧goN n c a i=goN n c b i:=by
  refine Classical.byContradiction fun z=>?_
  have nd:((List.range (n+1)).map fun k=>goN n c k i).Nodup:=by
   refine List.pairwise_map.mpr (List.Pairwise.imp_of_mem (fun {x y} hx hy hxy he=>z ⟨x,y,hxy,?_,he⟩) List.pairwise_lt_range)
   have:=List.mem_range.mp hy
   omega
  have:=Hg.nd_len (ms:=List.range n) nd fun y hy=>by
   obtain ⟨k,hk,rfl⟩:=List.mem_map.mp hy
   have:=List.mem_range.mp hk
   exact List.mem_range.mpr (lt k (by omega))
  rw [List.length_map,List.length_range,List.length_range] at this
  omega
 have hj:=lt a (by omega)
 have step:∀ k,k+a<=n->goN n c k (goN n c a i)<n:=fun k hk=>by
  rw [<- goN_add]
  exact lt _ hk
 have hper:goN n c (b-a) (goN n c a i)=goN n c a i:=by
  rw [<- goN_add,show b-a+a=b by omega,heq]
 generalize goN n c a i=j at hj step hper
 obtain ⟨p,hp0,hpb,hpp,hmin⟩:∃ p,0<p∧p<=b-a∧goN n c p j=j∧∀ q,0<q->q<p->goN n c q j≠j:=by
  have:∀ N p,p<=N->0<p->p<=b-a->goN n c p j=j->∃ p,0<p∧p<=b-a∧goN n c p j=j∧∀ q,0<q->q<p->goN n c q j≠j:=fun N=>by
   induction N with
   | zero=>intro p h1 h2;omega
   | succ N ih =>
    intro p h1 h2 h3 h4
    by_cases hq:∃ q,0<q∧q<p∧goN n c q j=j
    ·obtain ⟨q,q1,q2,q3⟩:=hq
     exact ih q (by omega) q1 (by omega) q3
    ·exact ⟨p,h2,h3,h4,fun q q1 q2 q3=>hq ⟨q,q1,q2,q3⟩⟩
  exact this (b-a) (b-a) (Nat.le_refl _) (by omega) (Nat.le_refl _) hper
 have eq:∀ k,k<=p->itf (fun i=>c.getD i n) k j=goN n c k j:=fun k=>by
  induction k with
  | zero=>intro _;rfl
  | succ k ih =>
   intro hk
   show c.getD (itf (fun i=>c.getD i n) k j) n=goF n c (goN n c k j)
   rw [ih (by omega)]
   unfold goF
   rw [if_pos (step k (by omega))]
 refine ch_round (i:=j) (m:=p-1) hj (fun k hk=>?_) ?_ fun k h1 h2=>?_
 ·rw [eq (k+1) (by omega)]
  exact step (k+1) (by omega)
 ·rw [show p-1+1=p by omega,eq p (Nat.le_refl _),hpp]
 ·rw [eq k (by omega)]
  exact hmin k h1 (by omega)
theorem det_count [DecidablePred (comes n)]:det n (chA n Ws [])=(((allC Ws n).filter fun c=>decide (comes n c)).length:Nat):=by
 rw [chA_all (Nat.le_refl n)]
 have key:∀ l:List (List Nat),(∀ c∈l,c.length=n)->(l.map fun c=>det n (chA n Ws c)).sum=((l.filter fun c=>decide (comes n c)).length:Nat):=fun l=>by
  induction l with
  | nil=>intro _;rfl
  | cons c l ih =>
   intro hl
   rw [List.map_cons,List.sum_cons,ih fun c hc=>hl c (List.mem_cons_of_mem _ hc),chA_full (hl c (List.mem_cons_self ..)),List.filter_cons]
   by_cases hc:comes n c
   ·rw [det_comes hc,if_pos (decide_eq_true hc),List.length_cons]
    omega
   ·rw [det_round hc,if_neg (by rw [decide_eq_false hc];exact Bool.false_ne_true)]
    omega
 exact key _ fun c hc=>allC_len hc
end
end Dt
namespace Dt
def cE (words:List (List Nat))(o:List Nat):Int:=((words.countP fun w=>decide (w.drop 1=o):Nat):Int)
def rI (texts:List (List Nat))(t:List Nat)(words:List (List Nat)):List Int:=texts.map fun o=>if o=t then ((words.length:Nat):Int)-cE words t else-cE words o
def wS (ls:List (List Nat))(g:List Nat->List (List Nat))(i:Nat):List Nat:=(g (ls.getD i [])).map fun w=>ls.idxOf (w.drop 1)
theorem cE_cons {w:List Nat}{ws:List (List Nat)}{o:List Nat}:cE (w::ws) o=cE ws o+if w.drop 1=o then 1 else 0:=by
 unfold cE
 rw [List.countP_cons]
 by_cases h:w.drop 1=o
 ·rw [if_pos (decide_eq_true h),if_pos h];omega
 ·rw [if_neg (fun z=>h (of_decide_eq_true z)),if_neg h];omega
theorem sum_rowW {ls:List (List Nat)}(hnd:ls.Nodup){i k:Nat}(hk:k<ls.length):∀ ws:List (List Nat),((ws.map fun w=>ls.idxOf (w.drop 1)).map fun w=>rowW ls.length i w k).sum=(if i=k then ((ws.length:Nat):Int) else 0)-cE ws ls[k]
 | []=>by
  show (0:Int)=_-((0:Nat):Int)
  split <;> simp
 | w::ws=>by
  rw [List.map_cons,List.map_cons,List.sum_cons,sum_rowW hnd hk ws,cE_cons]
  have e:(if ls.idxOf (w.drop 1)<ls.length then un (ls.idxOf (w.drop 1)) k else 0)=if w.drop 1=ls[k] then (1:Int) else 0:=by
   by_cases h:w.drop 1=ls[k]
   ·rw [if_pos h,h,hnd.idxOf_getElem,if_pos hk]
    simp [un]
   ·rw [if_neg h]
    split
    ·rename_i hlt
     have hne:ls.idxOf (w.drop 1)≠k:=fun z=>h (by
      have:=List.getElem_idxOf hlt
      subst z
      exact this.symm)
     unfold un
     rw [if_neg (Ne.symm hne)]
    ·rfl
  show un i k-(if ls.idxOf (w.drop 1)<ls.length then un (ls.idxOf (w.drop 1)) k else 0)+_=_
  rw [e,List.length_cons]
  by_cases hik:i=k
  ·rw [if_pos hik,if_pos hik,hik]
   simp [un]
   omega
  ·rw [if_neg hik,if_neg hik]
   simp [un,hik,Ne.symm hik]
   omega
theorem det_rows {ls:List (List Nat)}(hnd:ls.Nodup)(g:List Nat->List (List Nat)):det ls.length (ent (ls.map fun t=>rI ls t (g t)))=det ls.length (chA ls.length (wS ls g) []):=det_congr fun i k hi hk=>by
 show ((ls.map fun t=>rI ls t (g t)).getD i []).getD k 0=((wS ls g i).map fun w=>rowW ls.length i w k).sum
 unfold wS
 rw [sum_rowW hnd hk,List.getD_eq_getElem?_getD,List.getD_eq_getElem?_getD,List.getElem?_map,List.getElem?_eq_getElem hi]
 show ((rI ls ls[i] (g ls[i]))[k]?).getD 0=_
 unfold rI
 rw [List.getElem?_map,List.getElem?_eq_getElem hk,List.getD_eq_getElem?_getD,List.getElem?_eq_getElem hi]
 show (if ls[k]=ls[i] then _ else _)=(if i=k then (((g ls[i]).length:Nat):Int) else 0)-cE (g ls[i]) ls[k]
 by_cases hik:i=k
 ·subst hik
  rw [if_pos rfl,if_pos rfl]
 ·rw [if_neg hik,if_neg (fun z=>hik (by have a:=hnd.idxOf_getElem i hi;have b:=hnd.idxOf_getElem k hk;rw [z,a] at b;exact b)),Int.zero_sub]
end Dt
namespace Dt
def sT (ls:List (List Nat))(cw:List Nat->List Nat)(t:List Nat):List Nat:=if t∈ls then (cw t).drop 1 else t
def iT (ls:List (List Nat))(cw:List Nat->List Nat):Nat->List Nat->List Nat
 | 0,t=>t
 | k+1,t=>sT ls cw (iT ls cw k t)
def plc (ls:List (List Nat))(cw:List Nat->List Nat):List Nat:=ls.map fun t=>ls.idxOf ((cw t).drop 1)
theorem goN_iT {ls:List (List Nat)}(cw:List Nat->List Nat){t:List Nat}:∀ k:Nat,goN ls.length (plc ls cw) k (ls.idxOf t)=ls.idxOf (iT ls cw k t)
 | 0=>rfl
 | k+1=>by
  show goF ls.length (plc ls cw) (goN ls.length (plc ls cw) k (ls.idxOf t))=ls.idxOf (sT ls cw (iT ls cw k t))
  rw [goN_iT cw k]
  unfold goF sT
  by_cases h:iT ls cw k t∈ls
  ·have hl:ls.idxOf (iT ls cw k t)<ls.length:=List.idxOf_lt_length_of_mem h
   rw [if_pos hl,if_pos h]
   unfold plc
   rw [List.getD_eq_getElem?_getD,List.getElem?_map,List.getElem?_eq_getElem hl,List.getElem_idxOf hl]
   rfl
  ·have hl:¬ ls.idxOf (iT ls cw k t)<ls.length:=fun z=>h (List.idxOf_lt_length_iff.mp z)
   rw [if_neg hl,if_neg h]
theorem comes_iff {ls:List (List Nat)}(hnd:ls.Nodup)(cw:List Nat->List Nat):comes ls.length (plc ls cw)↔(ls.all fun t=>decide (iT ls cw ls.length t∉ls))=true:=by
 rw [List.all_eq_true]
 constructor
 ·intro h t ht
  refine decide_eq_true fun z=>h (ls.idxOf t) (List.idxOf_lt_length_of_mem ht) ?_
  rw [goN_iT]
  exact List.idxOf_lt_length_of_mem z
 ·intro h i hi z
  have e:=goN_iT (ls:=ls) cw (t:=ls[i]) ls.length
  rw [hnd.idxOf_getElem i hi] at e
  rw [e] at z
  exact of_decide_eq_true (h ls[i] (List.getElem_mem hi)) (List.idxOf_lt_length_iff.mp z)
end Dt
namespace Dt
inductive R2 {α β:Type}(R:α->β->Prop):List α->List β->Prop
 | nil:R2 R [] []
 | cons {a:α} {b:β} {as:List α} {bs:List β}:R a b->R2 R as bs->R2 R (a::as) (b::bs)
section
variable {α β:Type}{R R':α->β->Prop}{as:List α}{bs:List β}
end
abbrev W:=List Nat
def fset (f:W->W)(t w:W):W->W:=fun x=>if x=t then w else f x
theorem fset_comm {f:W->W}{a b x y:W}(h:a≠b):fset (fset f a x) b y=fset (fset f b y) a x:=by
 funext z
 unfold fset
 by_cases h1:z=b
 ·rw [if_pos h1,if_neg (fun e=>h (e.symm.trans h1)),if_pos h1]
 ·rw [if_neg h1,if_neg h1]
theorem fset_self {f:W->W}{t w:W}:fset f t w t=w:=by unfold fset;rw [if_pos rfl]
theorem fset_ne {f:W->W}{t w x:W}(h:x≠t):fset f t w x=f x:=by unfold fset;rw [if_neg h]
def chs (g:W->List W):List W->List (W->W)
 | []=>[fun _=>[]]
 | t::ls=>(chs g ls).flatMap fun f=>(g t).map fun w=>fset f t w
theorem chs_mem {g:W->List W}:∀ {ls:List W} {f:W->W},f∈chs g ls->∀ t∈ls,f t∈g t
 | t::ls,f,h,x,hx=>by
  obtain ⟨f',h1,h2⟩:=List.mem_flatMap.mp h
  obtain ⟨w,hw,rfl⟩:=List.mem_map.mp h2
  by_cases e:x=t
  ·subst e;rw [fset_self];exact hw
  ·rw [fset_ne e];exact chs_mem h1 x ((List.mem_cons.mp hx).resolve_left e)
theorem flatMap_swap {α β γ:Type}{F:α->β->γ}(as:List α)(bs:List β):(as.flatMap fun a=>bs.map fun b=>F a b).Perm (bs.flatMap fun b=>as.map fun a=>F a b):=by
 induction as with
 | nil=>simp
 | cons a as ih =>
  rw [List.flatMap_cons]
  refine (List.Perm.append_left _ ih).trans ?_
  clear ih
  induction bs with
  | nil=>simp
  | cons b bs ih2 =>
   rw [List.flatMap_cons,List.flatMap_cons,List.map_cons,List.map_cons,List.cons_append,List.cons_append]
   refine List.Perm.cons _ ?_
   refine List.Perm.trans ?_ (List.Perm.append_left _ ih2)
   rw [<- List.append_assoc,<- List.append_assoc]
   exact List.Perm.append_right _ List.perm_append_comm
theorem flatMap_congr_perm {α β:Type}{F G:α->List β}:∀ {l:List α},(∀ a∈l,(F a).Perm (G a))->(l.flatMap F).Perm (l.flatMap G)
 | [],_=>by simp
 | a::l,h=>by
  rw [List.flatMap_cons,List.flatMap_cons]
  exact (h a (List.mem_cons_self ..)).append (flatMap_congr_perm fun b hb=>h b (List.mem_cons_of_mem _ hb))
theorem chs_perm {g:W->List W}{ls ms:List W}(h:ls.Perm ms):ls.Nodup->(chs g ls).Perm (chs g ms):=by
 induction h with
 | nil=>intro _;exact .refl _
 | cons t _ ih=>intro hn;exact (ih (List.nodup_cons.mp hn).2).flatMap_right _
 | swap a b l =>
  intro hn
  have hab:b≠a:=fun e=>(List.nodup_cons.mp hn).1 (e▸List.mem_cons_self ..)
  show (((chs g l).flatMap fun f=>(g a).map fun w=>fset f a w).flatMap fun f=>(g b).map fun w=>fset f b w).Perm (((chs g l).flatMap fun f=>(g b).map fun w=>fset f b w).flatMap fun f=>(g a).map fun w=>fset f a w)
  rw [List.flatMap_assoc,List.flatMap_assoc]
  refine flatMap_congr_perm fun f _=>?_
  rw [List.flatMap_map,List.flatMap_map]
  have e:(fun x=>(g a).map fun y=>fset (fset f b x) a y)=fun x=>(g a).map fun y=>fset (fset f a y) b x:=by
   funext x;congr 1;funext y;exact fset_comm hab
  have e2:=flatMap_swap (F:=fun x y=>fset (fset f a x) b y) (g a) (g b)
  refine e2.trans ?_
  rw [e]
 | trans h1 _ ih1 ih2=>intro hn;exact (ih1 hn).trans (ih2 (h1.nodup_iff.mp hn))
def cmT (ls:List W)(cw:W->W):Bool:=ls.all fun t=>decide (iT ls cw ls.length t∉ls)
theorem iT_perm {ls ms:List W}(h:∀ t,t∈ls↔t∈ms){cw:W->W}{t:W}:∀ k,iT ls cw k t=iT ms cw k t
 | 0=>rfl
 | k+1=>by
  show sT ls cw (iT ls cw k t)=sT ms cw (iT ms cw k t)
  rw [iT_perm h k]
  unfold sT
  by_cases e:iT ms cw k t∈ms
  ·rw [if_pos e,if_pos ((h _).mpr e)]
  ·rw [if_neg e,if_neg (fun z=>e ((h _).mp z))]
theorem cmT_perm {ls ms:List W}(h:ls.Perm ms)(cw:W->W):cmT ls cw=cmT ms cw:=by
 unfold cmT
 rw [Bool.eq_iff_iff,List.all_eq_true,List.all_eq_true]
 have hm:∀ t,t∈ls↔t∈ms:=fun t=>h.mem_iff
 constructor
 ·intro q t ht
  have:=of_decide_eq_true (q t ((hm t).mpr ht))
  rw [iT_perm hm,h.length_eq] at this
  exact decide_eq_true fun z=>this ((hm _).mpr z)
 ·intro q t ht
  have:=of_decide_eq_true (q t ((hm t).mp ht))
  rw [<- iT_perm hm,<- h.length_eq] at this
  exact decide_eq_true fun z=>this ((hm _).mp z)
def nC (ls:List W)(g:W->List W):Nat:=((chs g ls).filter (cmT ls)).length
theorem nC_perm {ls ms:List W}(h:ls.Perm ms)(hn:ls.Nodup)(g:W->List W):nC ls g=nC ms g:=by
 unfold nC
 rw [((chs_perm (g:=g) h hn).filter (cmT ls)).length_eq]
 congr 2
 funext f
 exact cmT_perm h f
theorem chs_congr {g g':W->List W}:∀ {ls:List W},(∀ t∈ls,g t=g' t)->chs g ls=chs g' ls
 | [],_=>rfl
 | t::ls,h=>by
  show (chs g ls).flatMap _=(chs g' ls).flatMap _
  rw [chs_congr fun x hx=>h x (List.mem_cons_of_mem _ hx),h t (List.mem_cons_self ..)]
theorem nC_congr {ls:List W}{g g':W->List W}(h:∀ t∈ls,g t=g' t):nC ls g=nC ls g':=by unfold nC;rw [chs_congr h]
theorem allC_chs {ls:List W}(hn:ls.Nodup){g:W->List W}:∀ m,m<=ls.length->allC (wS ls g) m=(chs g (ls.take m).reverse).map fun f=>(ls.take m).map fun t=>ls.idxOf ((f t).drop 1)
 | 0,_=>by rw [List.take_zero];rfl
 | m+1,h=>by
  have hm:m<ls.length:=h
  have ht:ls.take (m+1)=ls.take m++[ls[m]]:=by rw [List.take_add_one,List.getElem?_eq_getElem hm];rfl
  rw [ht,List.reverse_append]
  show (allC (wS ls g) m).flatMap _=((chs g (ls.take m).reverse).flatMap fun f=>(g ls[m]).map fun w=>fset f ls[m] w).map _
  rw [allC_chs hn m (by omega),List.flatMap_map,List.map_flatMap]
  have hnot:ls[m]∉ls.take m:=fun z=>by
   have nd:(ls.take m++[ls[m]]).Nodup:=ht▸hn.sublist (List.take_sublist (m+1) ls)
   exact (List.nodup_append.mp nd).2.2 _ z _ (List.mem_singleton.mpr rfl) rfl
  congr 1
  funext f
  unfold wS
  rw [List.getD_eq_getElem?_getD,List.getElem?_eq_getElem hm,List.map_map,List.map_map]
  refine List.map_congr_left fun w _=>?_
  show (ls.take m).map _++[_]=(ls.take m++[ls[m]]).map _
  rw [List.map_append,List.map_singleton]
  congr 1
  ·refine List.map_congr_left fun t ht=>?_
   show _=ls.idxOf ((fset f ls[m] w t).drop 1)
   rw [fset_ne (fun e=>hnot (by rw [<- e];exact ht))]
  ·show _=[ls.idxOf ((fset f ls[m] w ls[m]).drop 1)]
   rw [fset_self]
theorem det_nC {ls:List W}(hn:ls.Nodup)(g:W->List W):det ls.length (ent (ls.map fun t=>rI ls t (g t)))=((nC ls g:Nat):Int):=by
 classical
 rw [det_rows hn,det_count,allC_chs hn ls.length (Nat.le_refl _),List.take_length]
 rw [nC_perm (List.reverse_perm ls).symm hn g]
 unfold nC
 rw [List.filter_map,List.length_map]
 congr 3
 funext f
 rw [cmT_perm (List.reverse_perm ls)]
 show decide (comes ls.length (plc ls f))=cmT ls f
 rw [Bool.eq_iff_iff,decide_eq_true_iff]
 exact comes_iff hn f
theorem chs_len_le {g:W->List W}:∀ ls:List W,(chs g ls).length<=2 ^ (ls.map fun t=>(g t).length).sum
 | []=>Nat.le_refl 1
 | t::ls=>by
  have ih:=chs_len_le (g:=g) ls
  have e:(chs g (t::ls)).length=(chs g ls).length*(g t).length:=by
   show ((chs g ls).flatMap fun f=>(g t).map fun w=>fset f t w).length=_
   generalize chs g ls=l
   induction l with
   | nil=>simp
   | cons f l ihl=>rw [List.flatMap_cons,List.length_append,List.length_map,ihl,List.length_cons,Nat.add_mul,Nat.one_mul,Nat.add_comm]
  rw [e,List.map_cons,List.sum_cons,Nat.pow_add,Nat.mul_comm]
  exact Nat.mul_le_mul (Nat.le_of_lt Nat.lt_two_pow_self) ih
end Dt
namespace Hg
variable {bg en:List Nat->List Nat}
def Tr (bg en:List Nat->List Nat):List Nat->List (List Nat)->List Nat->Prop
 | p,[],q=>p=q
 | p,w::ws,q=>bg w=p∧Tr bg en (en w) ws q
theorem Tr.snoc {w:List Nat}:∀ {ws:List (List Nat)} {p:List Nat},Tr bg en p ws (bg w)->Tr bg en p (ws++[w]) (en w)
 | [],_,h=>⟨h.symm,rfl⟩
 | _::_,_,h=>⟨h.1,Tr.snoc h.2⟩
theorem Tr.take:∀ {ws:List (List Nat)} {p q:List Nat} (k:Nat),Tr bg en p ws q->∃ r,Tr bg en p (ws.take k) r
 | _,p,_,0,_=>⟨p,by rw [List.take_zero];rfl⟩
 | [],p,_,_+1,_=>⟨p,rfl⟩
 | _::ws,_,_,k+1,h=>by
  obtain ⟨r,hr⟩:=Tr.take k h.2
  exact ⟨r,h.1,hr⟩
theorem Tr.last {w:List Nat}:∀ {ws:List (List Nat)} {p q:List Nat},Tr bg en p ws q->ws[ws.length-1]?=some w->q=en w
 | [],_,_,_,e=>by simp at e
 | [v],_,_,h,e=>by
  have e':v=w:=by simpa using e
  rw [<- e']
  exact h.2.symm
 | _::v::ws,_,_,h,e=>Tr.last (ws:=v::ws) h.2 (by simpa using e)
end Hg
namespace Wd
open Hg
def beg (l:W):W:=l.take (l.length-1)
def fin (l:W):W:=l.drop 1
theorem fin_ring {t:W}{n i:Nat}:fin (ringAt t n i)=beg (ringAt t n (i+1)):=by
 unfold fin beg
 rw [ringAt_len]
 apply List.ext_getElem?
 intro k
 rw [List.getElem?_drop]
 by_cases hk:k<n-1
 ·rw [List.getElem?_take_of_lt hk]
  unfold ringAt
  rw [List.getElem?_map,List.getElem?_map,List.getElem?_range (by omega),List.getElem?_range (by omega)]
  show some (t.getD ((i+(1+k)) % t.length) 0)=some (t.getD ((i+1+k) % t.length) 0)
  rw [Nat.add_assoc]
 ·rw [List.getElem?_eq_none (by rw [ringAt_len];omega),List.getElem?_eq_none (by rw [List.length_take,ringAt_len];omega)]
def seg (t:W)(n i j:Nat):List W:=(List.range' i (j-i)).map (ringAt t n)
theorem seg_tr {t:W}{n:Nat}:∀ {k i:Nat},Tr beg fin (beg (ringAt t n i)) ((List.range' i k).map (ringAt t n)) (beg (ringAt t n (i+k)))
 | 0,i=>rfl
 | k+1,i=>by
  rw [List.range'_succ,List.map_cons]
  refine ⟨rfl,?_⟩
  rw [fin_ring,show i+(k+1)=i+1+k by omega]
  exact seg_tr
theorem seg_tr' {t:W}{n i j:Nat}(h:i<=j):Tr beg fin (beg (ringAt t n i)) (seg t n i j) (beg (ringAt t n j)):=by
 have:=seg_tr (t:=t) (n:=n) (k:=j-i) (i:=i)
 rw [Nat.add_sub_cancel' h] at this
 exact this
theorem seg_all (t:W)(n:Nat):seg t n 0 t.length=ringW t n:=by
 unfold seg ringW
 rw [Nat.sub_zero,List.range_eq_range']
def sl (t:W)(i j:Nat):W:=(t.drop i).take (j-i)
def hd (w:W):Nat:=w.getD 0 0
theorem seg_hd {t:W}{n i j:Nat}(hn:1<=n)(hj:j<=t.length):(seg t n i j).map hd=sl t i j:=by
 unfold seg sl
 rw [List.map_map]
 apply List.ext_getElem?
 intro k
 rw [List.getElem?_map]
 by_cases hk:k<j-i
 ·rw [List.getElem?_range' hk,List.getElem?_take_of_lt hk,List.getElem?_drop]
  show some (hd (ringAt t n (i+1*k)))=_
  unfold hd ringAt
  obtain ⟨m,rfl⟩:∃ m,n=m+1:=⟨n-1,by omega⟩
  rw [List.getD_eq_getElem?_getD,List.getElem?_map,List.getElem?_range (by omega)]
  show some (t.getD ((i+1*k+0) % t.length) 0)=_
  rw [Nat.one_mul,Nat.add_zero,Nat.mod_eq_of_lt (by omega),List.getD_eq_getElem?_getD,List.getElem?_eq_getElem (by omega)]
  rfl
 ·rw [List.getElem?_eq_none (by rw [List.length_range'];omega),List.getElem?_eq_none (by rw [List.length_take];omega)]
  rfl
theorem tr_get {p q:W}:∀ {us:List W} {p:W} {i:Nat},Tr beg fin p us q->i<us.length->(∃ w,us[i]?=some w∧fin w=if h:i+1<us.length then beg us[i+1] else q):=by
 intro us
 induction us with
 | nil=>intro p i _ h;exact absurd h (Nat.not_lt_zero _)
 | cons u r ih =>
  intro p' i h hi
  cases i with
  | zero =>
   refine ⟨u,rfl,?_⟩
   cases r with
   | nil =>
    rw [dif_neg (by simp)]
    exact h.2
   | cons v r' =>
    rw [dif_pos (by simp)]
    exact h.2.1.symm
  | succ i =>
   obtain ⟨w,e1,e2⟩:=ih (i:=i) h.2 (by simpa using hi)
   refine ⟨w,by rw [List.getElem?_cons_succ];exact e1,?_⟩
   rw [e2]
   by_cases hh:i+1<r.length
   ·rw [dif_pos hh,dif_pos (by simpa using hh)]
    rfl
   ·rw [dif_neg hh,dif_neg (by simpa using hh)]
theorem ring_tr {us:List W}{p:W}{n:Nat}(hn:1<=n)(hl:∀ w∈us,w.length=n)(h:Tr beg fin p us p):ringW (us.map hd) n=us:=by
 rcases Nat.eq_zero_or_pos us.length with h0 | h0
 ·rw [List.length_eq_zero_iff.mp h0];rfl
 have nx:∀ i,i<us.length->∃ w v,us[i]?=some w∧us[(i+1) % us.length]?=some v∧fin w=beg v:=fun i hi=>by
  obtain ⟨w,e1,e2⟩:=tr_get (p:=p) h hi
  by_cases hh:i+1<us.length
  ·rw [dif_pos hh] at e2
   exact ⟨w,_,e1,by rw [Nat.mod_eq_of_lt hh];exact List.getElem?_eq_getElem hh,e2⟩
  ·rw [dif_neg hh] at e2
   refine ⟨w,us[0],e1,by rw [show i+1=us.length by omega,Nat.mod_self];exact List.getElem?_eq_getElem h0,?_⟩
   rw [e2]
   cases us with
   | nil=>exact absurd h0 (Nat.not_lt_zero _)
   | cons u r=>exact h.1.symm
 have key:∀ k i w,k<n->i<us.length->us[i]?=some w->∃ v,us[(i+k) % us.length]?=some v∧w[k]?=some (hd v):=by
  intro k
  induction k with
  | zero =>
   intro i w _ hi e
   refine ⟨w,by rw [Nat.add_zero,Nat.mod_eq_of_lt hi];exact e,?_⟩
   have hw:=hl w (List.mem_of_getElem? e)
   unfold hd
   rw [List.getD_eq_getElem?_getD,List.getElem?_eq_getElem (by omega)]
   rfl
  | succ k ih =>
   intro i w hk hi e
   obtain ⟨w',v,e1,e2,e3⟩:=nx i hi
   rw [e] at e1
   cases e1
   have hv:=hl v (List.mem_of_getElem? e2)
   obtain ⟨x,g1,g2⟩:=ih ((i+1) % us.length) v (by omega) (Nat.mod_lt _ h0) e2
   refine ⟨x,?_,?_⟩
   ·rw [<- g1,Nat.mod_add_mod,show i+1+k=i+(k+1) by omega]
   ·have:(fin w)[k]?=(beg v)[k]?:=by rw [e3]
    unfold fin beg at this
    rw [List.getElem?_drop,List.getElem?_take_of_lt (by omega),g2,show 1+k=k+1 by omega] at this
    exact this
 apply List.ext_getElem?
 intro i
 by_cases hi:i<us.length
 ·rw [ringW_get (by rw [List.length_map];exact hi),List.getElem?_eq_getElem hi]
  congr 1
  have hw:=hl us[i] (List.getElem_mem hi)
  apply List.ext_getElem?
  intro k
  by_cases hk:k<n
  ·obtain ⟨v,g1,g2⟩:=key k i us[i] hk hi (List.getElem?_eq_getElem hi)
   rw [ringAt_get hk (by rw [List.length_map];exact h0),List.length_map,List.getElem?_map,g1,g2]
   rfl
  ·rw [List.getElem?_eq_none (by rw [ringAt_len];omega),List.getElem?_eq_none (by omega)]
 ·rw [List.getElem?_eq_none (by rw [ringW_len,List.length_map];omega),List.getElem?_eq_none (by omega)]
section
variable {t:W}{n a b c d:Nat}
theorem ringAt_end:beg (ringAt t n t.length)=beg (ringAt t n 0):=by rw [<- ringAt_mod (i:=t.length),Nat.mod_self]
theorem sl_all:sl t 0 t.length=t:=by unfold sl;rw [List.drop_zero,Nat.sub_zero,List.take_length]
end
end Wd
namespace Wd
section
variable {r g:W}{n:Nat}
end
end Wd
namespace Wd
def num (k:Nat)(w:W):Nat:=w.foldl (fun a c=>a*k+(c-97)) 0
end Wd
namespace Wd
def Okk (k:Nat)(w:W):Prop:=∀ c∈w,97<=c∧c<97+k
def Lst (w:W):Prop:=w=least w
instance (w:W):Decidable (Lst w):=inferInstanceAs (Decidable (w=least w))
set_option genInjectivity false in
structure LW (k n:Nat)(w:W):Prop where
 len:w.length=n
 ok:Okk k w
 lst:Lst w
end Wd
namespace Wd
def Nn (k:Nat)(w:W)(m:Nat):Prop:=∀ v,LW k w.length v->∀ p,m<=p->p<w.length->v.take p=w.take p->¬ w.getD p 0<v.getD p 0
end Wd
namespace Wd
end Wd
namespace Wd
theorem rowW_snoc {t:W}{n c:Nat}(hn:1<=n)(h:n<=t.length+1):rowW (t++[c]) n=rowW t n++[t.drop (t.length+1-n)++[c]]:=by
 unfold rowW
 rw [List.length_append,List.length_singleton,show t.length+1+1-n=t.length+1-n+1 by omega,List.range_succ,List.map_append]
 refine congr (congrArg _ (List.map_congr_left fun i hi=>?_)) ?_
 ·rw [List.mem_range] at hi
  rw [<- row_at (t:=t++[c]) (by rw [List.length_append,List.length_singleton];omega),<- row_at (t:=t) (by omega),List.drop_append_of_le_length (by omega),List.take_append_of_le_length (by rw [List.length_drop];omega)]
 ·show [ringAt (t++[c]) n (t.length+1-n)]=_
  rw [<- row_at (t:=t++[c]) (by rw [List.length_append,List.length_singleton];omega),List.drop_append_of_le_length (by omega),List.take_of_length_le (by rw [List.length_append,List.length_drop,List.length_singleton];omega)]
end Wd
namespace Wd
end Wd
namespace Wd
def per (u:W)(m:Nat):W:=(List.range m).map fun j=>u.getD (j % u.length) 0
theorem per_len (u:W)(m:Nat):(per u m).length=m:=by rw [per,List.length_map,List.length_range]
theorem per_get {u:W}{m j:Nat}(h:j<m):(per u m)[j]?=some (u.getD (j % u.length) 0):=by rw [per,List.getElem?_map,List.getElem?_range h];rfl
theorem getD_of {t:W}{i c:Nat}(h:t[i]?=some c):t.getD i 0=c:=by rw [List.getD_eq_getElem?_getD,h];rfl
theorem rowW_per {u:W}{n:Nat}(h:0<u.length)(hn:1<=n):rowW (per u (u.length+n-1)) n=ringW u n:=by
 unfold rowW ringW
 rw [per_len,show u.length+n-1+1-n=u.length by omega]
 refine List.map_congr_left fun i hi=>?_
 have hi:=List.mem_range.mp hi
 unfold ringAt
 refine List.map_congr_left fun k hk=>?_
 have hk:=List.mem_range.mp hk
 rw [per_len,Nat.mod_eq_of_lt (by omega),getD_of (per_get (by omega))]
theorem per_of {t:W}{s n:Nat}(hs:0<s)(hn:1<=n)(hl:t.length=s+n-1)(h:t.drop s=t.take (n-1)):t=per (t.take s) (s+n-1):=by
 have hrl:(t.take s).length=s:=by rw [List.length_take];omega
 have key:∀ j,j<t.length->t[j]?=some ((t.take s).getD (j % s) 0):=by
  intro j
  induction j using Nat.strongRecOn with
  | _ j ih =>
   intro hj
   by_cases hjs:j<s
   ·rw [Nat.mod_eq_of_lt hjs,List.getElem?_eq_getElem hj,getD_of (c:=t[j]) (by rw [List.getElem?_take_of_lt hjs,List.getElem?_eq_getElem hj])]
   ·have e1:t[j]?=(t.drop s)[j-s]?:=by rw [List.getElem?_drop];congr 1;omega
    rw [e1,h,List.getElem?_take_of_lt (by omega),ih (j-s) (by omega) (by omega),Nat.mod_eq_sub_mod (show s<=j by omega)]
 apply List.ext_getElem?
 intro i
 by_cases hi:i<t.length
 ·rw [key i hi,per_get (by omega),hrl]
 ·rw [List.getElem?_eq_none (by omega),List.getElem?_eq_none (by rw [per_len];omega)]
theorem rowW_closed {t:W}{s n:Nat}(hs:0<s)(hn:1<=n)(hl:t.length=s+n-1)(h:t.drop s=t.take (n-1)):ringW (t.take s) n=rowW t n:=by
 have hrl:(t.take s).length=s:=by rw [List.length_take];omega
 have e:=rowW_per (u:=t.take s) (n:=n) (by omega) hn
 rw [hrl,<- per_of hs hn hl h] at e
 exact e.symm
end Wd
namespace Wd
section
variable {k n:Nat}{t:W}
end
end Wd
namespace Wd
open Hg
def lst (us:List W):W:=us.getD (us.length-1) []
def ext (ws us:List W):List (List W):=(ws.filter fun w=>decide (beg w=fin (lst us)) && !decide (w∈us)).map fun w=>us++[w]
section
variable {ws us:List W}{w0 w:W}{n k:Nat}
theorem Tr.cut {p q:W}:∀ {xs:List W} {p:W},Tr beg fin p (xs++[w]) q->Tr beg fin p xs (beg w)∧q=fin w
 | [],_,h=>⟨h.1.symm,h.2.symm⟩
 | x::xs,_,h=>by
  obtain ⟨h1,h2⟩:=Tr.cut (p:=p) (xs:=xs) h.2
  exact ⟨⟨h.1,h1⟩,h2⟩
end
end Wd
namespace Wd
open Hg
def cnt (f:W->W)(E:List W)(v:W):Nat:=(E.filter fun w=>decide (f w=v)).length
def Bal (E:List W)(s t:W):Prop:=∀ v,cnt beg E v+(if v=t then 1 else 0)=cnt fin E v+(if v=s then 1 else 0)
section
variable {E L us:List W}{s t v p q w:W}
theorem cnt_cons (f:W->W)(e:W)(E:List W)(v:W):cnt f (e::E) v=(if f e=v then 1 else 0)+cnt f E v:=by
 unfold cnt
 rw [List.filter_cons]
 by_cases h:f e=v
 ·rw [if_pos (decide_eq_true h),if_pos h,List.length_cons,Nat.add_comm]
 ·rw [if_neg (by rw [decide_eq_false h];exact Bool.false_ne_true),if_neg h,Nat.zero_add]
theorem cnt_app (f:W->W)(A B:List W)(v:W):cnt f (A++B) v=cnt f A v+cnt f B v:=by
 unfold cnt
 rw [List.filter_append,List.length_append]
theorem cnt_perm {A B:List W}(f:W->W)(h:A.Perm B)(v:W):cnt f A v=cnt f B v:=(h.filter _).length_eq
theorem Bal.perm {A B:List W}(h:Bal A s t)(hp:A.Perm B):Bal B s t:=fun v=>by rw [<- cnt_perm beg hp,<- cnt_perm fin hp];exact h v
theorem tr_bal:∀ {us:List W} {p:W},Tr beg fin p us q->Bal us p q
 | [],p,h=>fun v=>by
  have h:p=q:=h
  subst h
  rfl
 | w::us,p,h=>fun v=>by
  have ih:=tr_bal h.2 v
  have e:beg w=p:=h.1
  rw [cnt_cons,cnt_cons]
  have e1:(if v=p then 1 else 0)=(if beg w=v then 1 else 0):=by
   by_cases c:v=p
   ·rw [if_pos c,if_pos (by rw [e,c])]
   ·rw [if_neg c,if_neg (fun z=>c (by rw [<- z,e]))]
  have e2:(if v=fin w then 1 else 0)=(if fin w=v then 1 else 0):=by
   by_cases c:v=fin w
   ·rw [if_pos c,if_pos c.symm]
   ·rw [if_neg c,if_neg (fun z=>c z.symm)]
  omega
theorem Bal.rest (h:Bal E s t)(hp:E.Perm (us++L))(ht:Tr beg fin s us q):Bal L q t:=fun v=>by
 have h1:=(h.perm hp) v
 have h2:=tr_bal ht v
 rw [cnt_app,cnt_app] at h1
 omega
end
end Wd
namespace Dt
open Wd Hg
section
variable {ts:List W}{f:W->W}
theorem iT_out {t:W}(h:t∉ts):∀ k,iT ts f k t=t
 | 0=>rfl
 | k+1=>by
  show sT ts f (iT ts f k t)=t
  rw [iT_out h k]
  unfold sT
  rw [if_neg h]
theorem iT_add {t:W}:∀ l k,iT ts f (l+k) t=iT ts f l (iT ts f k t)
 | 0,k=>by rw [Nat.zero_add];rfl
 | l+1,k=>by
  rw [show l+1+k=(l+k)+1 by omega]
  show sT ts f (iT ts f (l+k) t)=sT ts f (iT ts f l (iT ts f k t))
  rw [iT_add l k]
theorem cmT_iff:cmT ts f=true↔∀ χ:W->Prop,(∀ t,χ t->t∈ts∧χ ((f t).drop 1))->∀ t,¬ χ t:=by
 constructor
 ·intro h χ hc t ht
  have key:∀ k,χ (iT ts f k t):=fun k=>by
   induction k with
   | zero=>exact ht
   | succ k ih =>
    show χ (sT ts f (iT ts f k t))
    unfold sT
    rw [if_pos (hc _ ih).1]
    exact (hc _ ih).2
  exact of_decide_eq_true (List.all_eq_true.mp h t (hc t ht).1) (hc _ (key ts.length)).1
 ·intro h
  refine List.all_eq_true.mpr fun t ht=>decide_eq_true fun hn=>?_
  have lt:∀ k,k<=ts.length->iT ts f k t∈ts:=fun k hk=>by
   refine Classical.byContradiction fun z=>?_
   have e:iT ts f (ts.length-k+k) t=iT ts f k t:=by rw [iT_add];exact iT_out z _
   rw [show ts.length-k+k=ts.length by omega] at e
   rw [e] at hn
   exact z hn
  obtain ⟨a,b,hab,hb,heq⟩:∃ a b,a<b∧b<=ts.length∧iT ts f a t=iT ts f b t:=by
   refine Classical.byContradiction fun z=>?_
   have nd:((List.range (ts.length+1)).map fun k=>iT ts f k t).Nodup:=by
    refine List.pairwise_map.mpr (List.Pairwise.imp_of_mem (fun {x y} hx hy hxy he=>z ⟨x,y,hxy,?_,he⟩) List.pairwise_lt_range)
    have:=List.mem_range.mp hy
    omega
   have:=Hg.nd_len (ms:=ts) nd fun y hy=>by
    obtain ⟨k,hk,rfl⟩:=List.mem_map.mp hy
    have:=List.mem_range.mp hk
    exact lt k (by omega)
   rw [List.length_map,List.length_range] at this
   omega
  refine h (fun u=>∃ k,a<=k∧k<b∧u=iT ts f k t) (fun u ⟨k,h1,h2,h3⟩=>?_) (iT ts f a t) ⟨a,Nat.le_refl _,hab,rfl⟩
  subst h3
  refine ⟨lt k (by omega),?_⟩
  have e:(f (iT ts f k t)).drop 1=iT ts f (k+1) t:=by
   show _=sT ts f (iT ts f k t)
   unfold sT
   rw [if_pos (lt k (by omega))]
  rw [e]
  by_cases hk:k+1<b
  ·exact ⟨k+1,by omega,hk,rfl⟩
  ·exact ⟨a,Nat.le_refl _,hab,by rw [heq,show b=k+1 by omega]⟩
end
def fct:Nat->Nat
 | 0=>1
 | n+1=>(n+1)*fct n
def pF (c:W->Nat):List W->Nat
 | []=>1
 | t::ts=>fct (c t-1)*pF c ts
theorem pF_congr {c c':W->Nat}:∀ {ts:List W},(∀ t∈ts,c t=c' t)->pF c ts=pF c' ts
 | [],_=>rfl
 | t::ts,h=>by
  show fct (c t-1)*pF c ts=fct (c' t-1)*pF c' ts
  rw [h t (List.mem_cons_self ..),pF_congr fun u hu=>h u (List.mem_cons_of_mem _ hu)]
theorem pF_perm {c:W->Nat}{ts us:List W}(h:ts.Perm us):pF c ts=pF c us:=by
 induction h with
 | nil=>rfl
 | cons t _ ih=>show fct (c t-1)*_=fct (c t-1)*_;rw [ih]
 | swap a b l=>show fct (c b-1)*(fct (c a-1)*pF c l)=fct (c a-1)*(fct (c b-1)*pF c l);rw [Nat.mul_left_comm]
 | trans _ _ h1 h2=>exact h1.trans h2
def og (E:List W)(t:W):List W:=E.filter fun w=>decide (beg w=t)
def rm (E:List W)(w:W):List W:=E.filter fun x=>!decide (x=w)
section
variable {E:List W}{a b t w:W}
theorem og_len:(og E t).length=cnt beg E t:=rfl
theorem mem_og:w∈og E t↔w∈E∧beg w=t:=by unfold og;rw [List.mem_filter,decide_eq_true_iff]
theorem mem_rm {x:W}:x∈rm E w↔x∈E∧x≠w:=by
 unfold rm
 rw [List.mem_filter,Bool.not_eq_true',decide_eq_false_iff_not]
theorem rm_nd (h:E.Nodup):(rm E w).Nodup:=h.sublist List.filter_sublist
theorem rm_perm (h:E.Nodup)(hw:w∈E):E.Perm (w::rm E w):=by
 refine (List.perm_ext_iff_of_nodup h (List.nodup_cons.mpr ⟨fun z=>(mem_rm.mp z).2 rfl,rm_nd h⟩)).mpr fun x=>?_
 rw [List.mem_cons,mem_rm]
 constructor
 ·intro hx
  by_cases e:x=w
  ·exact .inl e
  ·exact .inr ⟨hx,e⟩
 ·rintro (e | e)
  ·rw [e];exact hw
  ·exact e.1
theorem rm_len (h:E.Nodup)(hw:w∈E):(rm E w).length+1=E.length:=by
 have:=(rm_perm h hw).length_eq
 rw [List.length_cons] at this
 omega
theorem rm_bal (h:E.Nodup)(hw:w∈E)(hb:Bal E (beg w) b):Bal (rm E w) (fin w) b:=hb.rest (us:=[w]) (rm_perm h hw) ⟨rfl,rfl⟩
theorem rm_cnt (h:E.Nodup)(hw:w∈E)(f:W->W)(v:W):cnt f E v=(if f w=v then 1 else 0)+cnt f (rm E w) v:=by
 rw [cnt_perm f (rm_perm h hw),cnt_cons]
theorem og_rm (h:beg w≠t):og (rm E w) t=og E t:=by
 unfold og rm
 rw [List.filter_filter]
 refine List.filter_congr fun x _=>?_
 by_cases e:beg x=t
 ·have:x≠w:=fun z=>h (by rw [<- z];exact e)
  simp [e,this]
 ·simp [e]
theorem og_rm_same (h:beg w=t):og (rm E w) t=(og E t).filter fun x=>!decide (x=w):=by
 unfold og rm
 rw [List.filter_filter,List.filter_filter]
 refine List.filter_congr fun x _=>?_
 rw [Bool.and_comm]
end
def ordN:Nat->List W->W->W->List (List W)
 | 0,_,a,b=>if a=b then [[]] else []
 | n+1,E,a,b=>(og E a).flatMap fun w=>(ordN n (rm E w) (fin w) b).map fun us=>w::us
def eN (E:List W)(a b:W):Nat:=(ordN E.length E a b).length
theorem mem_ord:∀ {n:Nat} {E:List W} {a b:W} {us:List W},E.length=n->E.Nodup->(us∈ordN n E a b↔us.Perm E∧Tr beg fin a us b)
 | 0,E,a,b,us,hl,_=>by
  obtain rfl:=List.length_eq_zero_iff.mp hl
  show us∈(if a=b then [[]] else [])↔_
  constructor
  ·intro h
   by_cases e:a=b
   ·rw [if_pos e] at h
    rw [List.mem_singleton.mp h]
    exact ⟨.nil,e⟩
   ·rw [if_neg e] at h
    cases h
  ·rintro ⟨h1,h2⟩
   obtain rfl:=List.perm_nil.mp h1
   have e:a=b:=h2
   rw [if_pos e]
   exact List.mem_singleton.mpr rfl
 | n+1,E,a,b,us,hl,hn=>by
  show us∈(og E a).flatMap (fun w=>(ordN n (rm E w) (fin w) b).map fun us=>w::us)↔_
  rw [List.mem_flatMap]
  constructor
  ·rintro ⟨w,hw,h⟩
   obtain ⟨vs,hv,rfl⟩:=List.mem_map.mp h
   obtain ⟨hwE,hwb⟩:=mem_og.mp hw
   have hl':(rm E w).length=n:=by have:=rm_len hn hwE;omega
   obtain ⟨h1,h2⟩:=(mem_ord hl' (rm_nd hn)).mp hv
   exact ⟨(h1.cons w).trans (rm_perm hn hwE).symm,hwb,h2⟩
  ·rintro ⟨h1,h2⟩
   cases us with
   | nil=>rw [<- h1.length_eq] at hl;cases hl
   | cons w vs =>
    have hwE:w∈E:=h1.mem_iff.mp (List.mem_cons_self ..)
    have hl':(rm E w).length=n:=by have:=rm_len hn hwE;omega
    refine ⟨w,mem_og.mpr ⟨hwE,h2.1⟩,List.mem_map.mpr ⟨vs,(mem_ord hl' (rm_nd hn)).mpr ⟨?_,h2.2⟩,rfl⟩⟩
    exact ((h1.trans (rm_perm hn hwE)).cons_inv)
theorem ord_nd:∀ {n:Nat} {E:List W} {a b:W},E.length=n->E.Nodup->(ordN n E a b).Nodup
 | 0,E,a,b,_,_=>by
  show (if a=b then [[]] else []).Nodup
  split <;> simp
 | n+1,E,a,b,hl,hn=>by
  show ((og E a).flatMap fun w=>(ordN n (rm E w) (fin w) b).map fun us=>w::us).Nodup
  have key:∀ l:List W,l.Nodup->(∀ w∈l,w∈E)->(l.flatMap fun w=>(ordN n (rm E w) (fin w) b).map fun us=>w::us).Nodup:=fun l=>by
   induction l with
   | nil=>intro _ _;exact List.nodup_nil
   | cons w l ih =>
    intro h1 h2
    rw [List.nodup_cons] at h1
    rw [List.flatMap_cons]
    have hwE:=h2 w (List.mem_cons_self ..)
    refine List.nodup_append.mpr ⟨?_,ih h1.2 fun x hx=>h2 x (List.mem_cons_of_mem _ hx),fun x hx y hy e=>?_⟩
    ·exact List.pairwise_map.mpr ((ord_nd (by have:=rm_len hn hwE;omega) (rm_nd hn)).imp fun h z=>h (List.cons.inj z).2)
    ·obtain ⟨us,_,rfl⟩:=List.mem_map.mp hx
     obtain ⟨v,hv,hy⟩:=List.mem_flatMap.mp hy
     obtain ⟨vs,_,rfl⟩:=List.mem_map.mp hy
     exact h1.1 ((List.cons.inj e).1▸hv)
  exact key _ (hn.sublist List.filter_sublist) fun w hw=>(mem_og.mp hw).1
theorem eN_step {E:List W}(hn:E.Nodup){a b:W}(hne:E≠[]):eN E a b=((og E a).map fun w=>eN (rm E w) (fin w) b).sum:=by
 obtain ⟨n,hl⟩:∃ n,E.length=n+1:=⟨E.length-1,by have:=List.length_pos_iff.mpr hne;omega⟩
 unfold eN
 rw [hl]
 show ((og E a).flatMap fun w=>(ordN n (rm E w) (fin w) b).map fun us=>w::us).length=_
 rw [List.length_flatMap]
 congr 1
 refine List.map_congr_left fun w hw=>?_
 have:=rm_len hn (mem_og.mp hw).1
 rw [List.length_map,show (rm E w).length=n by omega]
theorem eN_uneven {E:List W}(hn:E.Nodup){a b:W}(h:¬ Bal E a b):eN E a b=0:=by
 unfold eN
 rw [List.length_eq_zero_iff,List.eq_nil_iff_forall_not_mem]
 intro us hu
 obtain ⟨h1,h2⟩:=(mem_ord rfl hn).mp hu
 exact h ((tr_bal h2).perm h1)
def Txs (E:List W)(b:W)(ts:List W):Prop:=ts.Nodup∧∀ t,t∈ts↔t≠b∧∃ w∈E,beg w=t
def bst (E:List W)(b:W)(ts:List W):Nat:=fct (cnt beg E b)*pF (cnt beg E) ts*nC ts (og E)
theorem Txs.perm {E:List W}{b:W}{ts us:List W}(h1:Txs E b ts)(h2:Txs E b us):ts.Perm us:=(List.perm_ext_iff_of_nodup h1.1 h2.1).mpr fun t=>by rw [h1.2,h2.2]
theorem bst_any {E:List W}{b:W}{ts us:List W}(h1:Txs E b ts)(h2:Txs E b us):bst E b ts=bst E b us:=by
 unfold bst
 rw [pF_perm (h1.perm h2),nC_perm (h1.perm h2) h1.1]
def nW (ts:List W)(a:W)(g:W->List W)(w:W):Nat:=((chs g ts).filter fun f=>cmT (a::ts) (fset f a w)).length
theorem nC_cons {ts:List W}{a:W}{g:W->List W}:nC (a::ts) g=((g a).map (nW ts a g)).sum:=by
 show (((chs g ts).flatMap fun f=>(g a).map fun w=>fset f a w).filter (cmT (a::ts))).length=((g a).map fun w=>((chs g ts).filter fun f=>cmT (a::ts) (fset f a w)).length).sum
 generalize chs g ts=l
 induction l with
 | nil =>
  show 0=((g a).map fun w=>0).sum
  generalize g a=l
  induction l with
  | nil=>rfl
  | cons w l ih=>rw [List.map_cons,List.sum_cons,<- ih]
 | cons f l ih =>
  rw [List.flatMap_cons,List.filter_append,List.length_append,ih]
  clear ih
  generalize g a=m
  induction m with
  | nil=>rfl
  | cons w m ih =>
   rw [List.map_cons,List.map_cons,List.map_cons,List.sum_cons,List.sum_cons,List.filter_cons,List.filter_cons]
   by_cases hc:cmT (a::ts) (fset f a w)=true
   ·rw [if_pos hc,if_pos hc,List.length_cons,List.length_cons];omega
   ·rw [if_neg hc,if_neg hc];omega
theorem nW_congr {ts:List W}{a w:W}{g g':W->List W}(h:∀ t∈ts,g t=g' t):nW ts a g w=nW ts a g' w:=by unfold nW;rw [chs_congr h]
theorem sum_without {f:W->Nat}{w:W}:∀ {l:List W},l.Nodup->w∈l->((l.filter fun x=>!decide (x=w)).map f).sum+f w=(l.map f).sum
 | x::l,hn,hw=>by
  rw [List.nodup_cons] at hn
  by_cases e:x=w
  ·subst e
   rw [List.filter_cons_of_neg (by simp),List.map_cons,List.sum_cons,List.filter_eq_self.mpr fun y hy=>by have:y≠x:=fun z=>hn.1 (z▸hy);simp [this]]
   omega
  ·rw [List.filter_cons_of_pos (by simp [e]),List.map_cons,List.sum_cons,List.map_cons,List.sum_cons,<- sum_without hn.2 ((List.mem_cons.mp hw).resolve_left (Ne.symm e))]
   omega
theorem sum_all {S:Nat}{f h:W->Nat}:∀ {l:List W},(∀ w∈l,h w+f w=S)->(l.map h).sum+(l.map f).sum=l.length*S
 | [],_=>by simp
 | w::l,hh=>by
  have e:=hh w (List.mem_cons_self ..)
  have ih:=sum_all (l:=l) fun x hx=>hh x (List.mem_cons_of_mem _ hx)
  rw [List.map_cons,List.sum_cons,List.map_cons,List.sum_cons,List.length_cons,Nat.add_mul,Nat.one_mul]
  omega
theorem sum_const {c:Nat}{f:W->Nat}:∀ {l:List W},(∀ w∈l,f w=c)->(l.map f).sum=l.length*c
 | [],_=>by simp
 | w::l,h=>by
  rw [List.map_cons,List.sum_cons,h w (List.mem_cons_self ..),sum_const fun x hx=>h x (List.mem_cons_of_mem _ hx),List.length_cons,Nat.add_mul,Nat.one_mul,Nat.add_comm]
theorem sumL_mul {c:Nat}{f:W->Nat}:∀ l:List W,(l.map fun w=>c*f w).sum=c*(l.map f).sum
 | []=>rfl
 | w::l=>by rw [List.map_cons,List.sum_cons,sumL_mul l,List.map_cons,List.sum_cons,Nat.mul_add]
theorem nC_leaf {ts:List W}{a w:W}{g:W->List W}(ha:a∉ts)(hg:g a=[w])(hw:w.drop 1≠a)(hl:∀ t∈ts,∀ x∈g t,x.drop 1≠a):nC (a::ts) g=nC ts g:=by
 rw [nC_cons,hg]
 show nW ts a g w+0=_
 rw [Nat.add_zero]
 unfold nW nC
 congr 1
 refine List.filter_congr fun f hf=>?_
 rw [Bool.eq_iff_iff,cmT_iff,cmT_iff]
 have hm:∀ t∈ts,f t∈g t:=chs_mem hf
 constructor
 ·intro h χ hc t ht
  refine h χ (fun u hu=>?_) t ht
  obtain ⟨h1,h2⟩:=hc u hu
  have hne:u≠a:=fun z=>ha (z▸h1)
  exact ⟨List.mem_cons_of_mem _ h1,by rw [fset_ne hne];exact h2⟩
 ·intro h χ hc t ht
  have key:=h (fun u=>χ u∧u≠a) fun u ⟨h1,h2⟩=>by
   obtain ⟨h3,h4⟩:=hc u h1
   rw [fset_ne h2] at h4
   have hu:=(List.mem_cons.mp h3).resolve_left h2
   exact ⟨hu,h4,hl u hu _ (hm u hu)⟩
  have hat:∀ u,χ u->u=a:=fun u hu=>Classical.byContradiction fun z=>key u ⟨hu,z⟩
  obtain rfl:=hat t ht
  have h2:=(hc t ht).2
  rw [fset_self] at h2
  exact hw (hat _ h2)
theorem nC_round {ts:List W}{g:W->List W}(hne:ts≠[])(h:∀ t∈ts,∀ x∈g t,x.drop 1∈ts):nC ts g=0:=by
 unfold nC
 rw [List.length_eq_zero_iff,List.filter_eq_nil_iff]
 intro f hf hc
 obtain ⟨t,ht⟩:=List.exists_mem_of_ne_nil _ hne
 exact cmT_iff.mp hc (fun u=>u∈ts) (fun u hu=>⟨hu,h u hu _ (chs_mem hf u hu)⟩) t ht
theorem bal_loop {E:List W}{b:W}(hb:Bal E b b)(v:W):cnt beg E v=cnt fin E v:=by
 have:=hb v
 omega
theorem best:∀ (n:Nat) {E:List W} {a b:W} {ts:List W},E.length=n->E.Nodup->Bal E a b->Txs E b ts->eN E a b=bst E b ts
 | 0,E,a,b,ts,hl,hn,hb,ht=>by
  obtain rfl:=List.length_eq_zero_iff.mp hl
  have hab:a=b:=by
   have h:=hb a
   rw [if_pos (rfl:a=a)] at h
   refine Classical.byContradiction fun z=>?_
   rw [if_neg z] at h
   cases h
  obtain rfl:ts=[]:=List.eq_nil_iff_forall_not_mem.mpr fun t h=>by
   obtain ⟨_,w,hw,_⟩:=(ht.2 t).mp h
   cases hw
  show (if a=b then [[]] else ([]:List (List W))).length=1
  rw [if_pos hab]
  rfl
 | n+1,E,a,b,ts,hl,hn,hb,ht=>by
  have hne:E≠[]:=fun z=>by rw [z] at hl;cases hl
  rw [eN_step hn hne]
  have hlw:∀ w∈og E a,(rm E w).length=n:=fun w hw=>by have:=rm_len hn (mem_og.mp hw).1;omega
  have hbw:∀ w∈og E a,Bal (rm E w) (fin w) b:=fun w hw=>by
   obtain ⟨h1,h2⟩:=mem_og.mp hw
   exact rm_bal hn h1 (h2.symm▸hb)
  by_cases hab:a=b
  ·subst hab
   by_cases h0:cnt beg E a=0
   ·have e:og E a=[]:=List.length_eq_zero_iff.mp h0
    rw [e]
    show 0=fct _*_*nC ts (og E)
    have hin:∀ w∈E,fin w∈ts:=fun w hw=>by
     have h1:0<cnt fin E (fin w):=List.length_pos_of_mem (List.mem_filter.mpr ⟨hw,decide_eq_true rfl⟩)
     rw [<- bal_loop hb] at h1
     obtain ⟨x,hx⟩:=List.exists_mem_of_length_pos h1
     obtain ⟨hx1,hx2⟩:=List.mem_filter.mp hx
     refine (ht.2 _).mpr ⟨fun z=>?_,x,hx1,of_decide_eq_true hx2⟩
     rw [z,h0] at h1
     cases h1
    obtain ⟨w,hw⟩:=List.exists_mem_of_ne_nil _ hne
    rw [nC_round (List.ne_nil_of_mem (hin w hw)) fun t _ x hx=>hin x (mem_og.mp hx).1,Nat.mul_zero]
   ·have hc:∀ w∈og E a,eN (rm E w) (fin w) a=fct (cnt beg E a-1)*pF (cnt beg E) ts*nC ts (og E):=fun w hw=>by
     obtain ⟨hw1,hw2⟩:=mem_og.mp hw
     have htw:Txs (rm E w) a ts:=⟨ht.1,fun t=>by
      rw [ht.2]
      constructor
      ·rintro ⟨h1,x,h2,h3⟩
       exact ⟨h1,x,mem_rm.mpr ⟨h2,fun z=>h1 (by rw [<- h3,z,hw2])⟩,h3⟩
      ·rintro ⟨h1,x,h2,h3⟩
       exact ⟨h1,x,(mem_rm.mp h2).1,h3⟩⟩
     rw [best n (hlw w hw) (rm_nd hn) (hbw w hw) htw]
     unfold bst
     have e1:=rm_cnt hn hw1 beg a
     rw [if_pos hw2] at e1
     rw [show cnt beg (rm E w) a=cnt beg E a-1 by omega]
     rw [pF_congr (c':=cnt beg E) fun t ht'=>by
      have e2:=rm_cnt hn hw1 beg t
      rw [if_neg (fun z=>((ht.2 t).mp ht').1 (by rw [<- z,hw2]))] at e2
      omega]
     rw [nC_congr (g':=og E) fun t ht'=>og_rm (fun z=>((ht.2 t).mp ht').1 (by rw [<- z,hw2]))]
    rw [sum_const hc,og_len]
    unfold bst
    obtain ⟨m,hm⟩:∃ m,cnt beg E a=m+1:=⟨cnt beg E a-1,by omega⟩
    rw [hm]
    show (m+1)*(fct m*_*_)=(m+1)*fct m*_*_
    rw [Nat.mul_assoc,Nat.mul_assoc,Nat.mul_assoc]
  ·have hca:cnt beg E a=cnt fin E a+1:=by
    have:=hb a
    rw [if_neg hab,if_pos rfl] at this
    omega
   have hat:a∈ts:=by
    obtain ⟨w,hw⟩:=List.exists_mem_of_length_pos (show 0<(og E a).length by rw [og_len];omega)
    exact (ht.2 a).mpr ⟨hab,w,mem_og.mp hw⟩
   obtain ⟨us,hp⟩:∃ us,ts.Perm (a::us):=⟨ts.erase a,List.perm_cons_erase hat⟩
   have ht':Txs E b (a::us):=⟨hp.nodup_iff.mp ht.1,fun t=>by rw [<- hp.mem_iff];exact ht.2 t⟩
   rw [bst_any ht ht']
   have hau:a∉us:=(List.nodup_cons.mp ht'.1).1
   have hcu:∀ w∈og E a,pF (cnt beg (rm E w)) us=pF (cnt beg E) us:=fun w hw=>pF_congr fun t htu=>by
    obtain ⟨hw1,hw2⟩:=mem_og.mp hw
    have e2:=rm_cnt hn hw1 beg t
    rw [if_neg (fun z=>hau (by rw [<- hw2,z];exact htu))] at e2
    omega
   have hcb:∀ w∈og E a,cnt beg (rm E w) b=cnt beg E b:=fun w hw=>by
    obtain ⟨hw1,hw2⟩:=mem_og.mp hw
    have e2:=rm_cnt hn hw1 beg b
    rw [if_neg (fun z=>hab (by rw [<- hw2,z]))] at e2
    omega
   by_cases h1:cnt beg E a=1
   ·obtain ⟨w,hw⟩:=List.length_eq_one_iff.mp (show (og E a).length=1 from h1)
    have hwm:w∈og E a:=by rw [hw];exact List.mem_singleton.mpr rfl
    obtain ⟨hw1,hw2⟩:=mem_og.mp hwm
    have hnf:∀ x∈E,x.drop 1≠a:=fun x hx z=>by
     have:0<cnt fin E a:=List.length_pos_of_mem (List.mem_filter.mpr ⟨hx,decide_eq_true z⟩)
     omega
    have htw:Txs (rm E w) b us:=⟨(List.nodup_cons.mp ht'.1).2,fun t=>by
     constructor
     ·intro htu
      obtain ⟨h3,x,h4,h5⟩:=(ht'.2 t).mp (List.mem_cons_of_mem _ htu)
      exact ⟨h3,x,mem_rm.mpr ⟨h4,fun z=>hau (by rw [<- hw2,<- z,h5];exact htu)⟩,h5⟩
     ·rintro ⟨h3,x,h4,h5⟩
      obtain ⟨h6,h7⟩:=mem_rm.mp h4
      refine (List.mem_cons.mp ((ht'.2 t).mpr ⟨h3,x,h6,h5⟩)).resolve_left fun z=>h7 ?_
      have:x∈og E a:=mem_og.mpr ⟨h6,h5.trans z⟩
      rw [hw] at this
      exact List.mem_singleton.mp this⟩
    rw [hw]
    show eN (rm E w) (fin w) b+0=_
    rw [Nat.add_zero,best n (hlw w hwm) (rm_nd hn) (hbw w hwm) htw]
    unfold bst
    rw [hcb w hwm,hcu w hwm,nC_leaf hau hw (hnf w hw1) fun t _ x hx=>hnf x (mem_og.mp hx).1]
    rw [nC_congr (g':=og E) fun t htu=>og_rm (fun z=>hau (by rw [<- hw2,z];exact htu))]
    show fct _*pF _ us*_=fct _*(fct (cnt beg E a-1)*pF _ us)*_
    rw [h1]
    show _=fct _*(1*pF _ us)*_
    rw [Nat.one_mul]
   ·have hc:∀ w∈og E a,eN (rm E w) (fin w) b=fct (cnt beg E b)*(fct (cnt beg E a-2)*pF (cnt beg E) us)*nC (a::us) (og (rm E w)):=fun w hw=>by
     obtain ⟨hw1,hw2⟩:=mem_og.mp hw
     have e1:=rm_cnt hn hw1 beg a
     rw [if_pos hw2] at e1
     have htw:Txs (rm E w) b (a::us):=⟨ht'.1,fun t=>by
      rw [ht'.2]
      constructor
      ·rintro ⟨h3,x,h4,h5⟩
       by_cases hta:t=a
       ·obtain ⟨y,hy⟩:=List.exists_mem_of_length_pos (show 0<(og (rm E w) a).length by rw [og_len];omega)
        exact ⟨h3,y,(mem_og.mp hy).1,by rw [(mem_og.mp hy).2,hta]⟩
       ·exact ⟨h3,x,mem_rm.mpr ⟨h4,fun z=>hta (by rw [<- h5,z,hw2])⟩,h5⟩
      ·rintro ⟨h3,x,h4,h5⟩
       exact ⟨h3,x,(mem_rm.mp h4).1,h5⟩⟩
     rw [best n (hlw w hw) (rm_nd hn) (hbw w hw) htw]
     unfold bst
     rw [hcb w hw]
     show _*(fct (cnt beg (rm E w) a-1)*pF (cnt beg (rm E w)) us)*_=_
     rw [hcu w hw,show cnt beg (rm E w) a-1=cnt beg E a-2 by omega]
    rw [List.map_congr_left hc,sumL_mul]
    have hS:∀ w∈og E a,nC (a::us) (og (rm E w))+nW us a (og E) w=nC (a::us) (og E):=fun w hw=>by
     obtain ⟨hw1,hw2⟩:=mem_og.mp hw
     rw [nC_cons,nC_cons,og_rm_same hw2,<- sum_without (l:=og E a) (f:=nW us a (og E)) (hn.sublist List.filter_sublist) hw]
     congr 2
     refine List.map_congr_left fun x _=>nW_congr fun t htu=>og_rm (fun z=>hau (by rw [<- hw2,z];exact htu))
    have hsum:=sum_all hS
    rw [<- nC_cons (g:=og E),og_len] at hsum
    unfold bst
    show _=fct (cnt beg E b)*(fct (cnt beg E a-1)*pF (cnt beg E) us)*nC (a::us) (og E)
    obtain ⟨m,hm⟩:∃ m,cnt beg E a=m+2:=⟨cnt beg E a-2,by omega⟩
    rw [hm] at hsum ⊢
    have e3:((og E a).map fun w=>nC (a::us) (og (rm E w))).sum=(m+1)*nC (a::us) (og E):=by
     rw [show m+2=(m+1)+1 from rfl,Nat.add_mul,Nat.one_mul] at hsum
     omega
    rw [e3]
    show fct _*(fct m*_)*((m+1)*_)=fct _*((m+1)*fct m*_)*_
    generalize fct (cnt beg E b)=A
    generalize fct m=B
    generalize pF (cnt beg E) us=C
    generalize nC (a::us) (og E)=D
    rw [Nat.mul_assoc (m+1) B C,Nat.mul_left_comm A (m+1) (B*C),Nat.mul_comm (m+1) (A*(B*C)),Nat.mul_assoc (A*(B*C)) (m+1) D]
end Dt
namespace Dt
open Wd Hg
theorem tr_app:∀ {xs ys:List W} {p q:W},Tr beg fin p (xs++ys) q↔∃ r,Tr beg fin p xs r∧Tr beg fin r ys q
 | [],ys,p,q=>⟨fun h=>⟨p,rfl,h⟩,fun ⟨r,h1,h2⟩=>by have e:p=r:=h1;rw [e];exact h2⟩
 | x::xs,ys,p,q=>by
  constructor
  ·rintro ⟨h1,h2⟩
   obtain ⟨r,h3,h4⟩:=tr_app.mp h2
   exact ⟨r,⟨h1,h3⟩,h4⟩
  ·rintro ⟨r,⟨h1,h3⟩,h4⟩
   exact ⟨h1,tr_app.mpr ⟨r,h3,h4⟩⟩
end Dt
namespace Dt
open Wd Hg
theorem fct_le:∀ {n:Nat},n<=64->fct n<=64 ^ n
 | 0,_=>Nat.le_refl 1
 | n+1,h=>by
  show (n+1)*fct n<=64 ^ (n+1)
  rw [Nat.pow_succ,Nat.mul_comm]
  exact Nat.mul_le_mul (fct_le (by omega)) (by omega)
theorem fct_mono (n:Nat):fct (n-1)<=fct n:=by
 cases n with
 | zero=>exact Nat.le_refl _
 | succ n=>show fct n<=(n+1)*fct n;exact Nat.le_mul_of_pos_left _ (Nat.succ_pos n)
theorem pF_le {c:W->Nat}:∀ {ts:List W},(∀ t∈ts,c t<=64)->pF c ts<=64 ^ (ts.map c).sum
 | [],_=>Nat.le_refl 1
 | t::ts,h=>by
  show fct (c t-1)*pF c ts<=_
  rw [List.map_cons,List.sum_cons,Nat.pow_add]
  exact Nat.mul_le_mul (Nat.le_trans (fct_mono _) (fct_le (h t (List.mem_cons_self ..)))) (pF_le fun u hu=>h u (List.mem_cons_of_mem _ hu))
theorem pF_snoc {c:W->Nat}{t:W}:∀ ts:List W,pF c (ts++[t])=pF c ts*fct (c t-1)
 | []=>by show fct _*1=1*fct _;omega
 | u::ts=>by
  show fct _*pF c (ts++[t])=fct _*pF c ts*_
  rw [pF_snoc ts,Nat.mul_assoc]
theorem len_splitF {α:Type}(p:α->Bool):∀ l:List α,(l.filter p).length+(l.filter fun x=>!p x).length=l.length
 | []=>rfl
 | x::l=>by
  have ih:=len_splitF p l
  by_cases h:p x=true
  ·rw [List.filter_cons_of_pos h,List.filter_cons_of_neg (by simp [h]),List.length_cons,List.length_cons];omega
  ·rw [List.filter_cons_of_neg h,List.filter_cons_of_pos (by simp [h]),List.length_cons,List.length_cons];omega
theorem cnt_sum {E:List W}:∀ {ts:List W},ts.Nodup->(ts.map (cnt beg E)).sum<=E.length
 | [],_=>by simp
 | t::ts,nd=>by
  rw [List.nodup_cons] at nd
  have ih:=cnt_sum (E:=E.filter fun l=>!decide (beg l=t)) nd.2
  rw [List.map_cons,List.sum_cons]
  have e:ts.map (cnt beg (E.filter fun l=>!decide (beg l=t)))=ts.map (cnt beg E):=List.map_congr_left fun u hu=>by
   unfold cnt
   rw [List.filter_filter]
   congr 1
   refine List.filter_congr fun l _=>?_
   by_cases h:beg l=u
   ·have hne:u≠t:=fun z=>nd.1 (z▸hu)
    simp [h,hne]
   ·simp [h]
  rw [e] at ih
  have h2:=len_splitF (fun l=>decide (beg l=t)) E
  exact Nat.le_trans (Nat.add_le_add_left ih _) (Nat.le_of_eq h2)
theorem nC_le {ts:List W}{g:W->List W}:nC ts g<=2 ^ (ts.map fun t=>(g t).length).sum:=Nat.le_trans (List.length_filter_le ..) (chs_len_le ts)
theorem count_map {f:W->W}{v:W}:∀ {E:List W},(E.map f).count v=cnt f E v
 | []=>rfl
 | e::E=>by
  rw [List.map_cons,List.count_cons,cnt_cons,count_map]
  by_cases h:f e=v
  ·rw [if_pos (by rw [h];exact beq_self_eq_true v),if_pos h];omega
  ·rw [if_neg (by intro z;exact h (eq_of_beq z)),if_neg h];omega
theorem bal_iff {E:List W}{a b:W}:(E.map beg++[b]).Perm (E.map fin++[a])↔Bal E a b:=by
 rw [List.perm_iff_count]
 have e:∀ (x v:W),([x]:List W).count v=if v=x then 1 else 0:=fun x v=>by
  rw [List.count_cons,List.count_nil]
  by_cases h:v=x
  ·rw [if_pos h,if_pos (by rw [h];exact beq_self_eq_true x)]
  ·rw [if_neg h,if_neg (by intro z;exact h (eq_of_beq z).symm)]
 unfold Bal
 constructor
 ·intro h v
  have:=h v
  rw [List.count_append,List.count_append,count_map,count_map,e,e] at this
  exact this
 ·intro h v
  rw [List.count_append,List.count_append,count_map,count_map,e,e]
  exact h v
end Dt
namespace Dt
open Wd Hg
theorem eN_pos {E us:List W}(hn:E.Nodup){a b:W}(h1:us.Perm E)(h2:Tr beg fin a us b):0<eN E a b:=List.length_pos_of_mem ((mem_ord rfl hn).mpr ⟨h1,h2⟩)
end Dt
namespace Wd
def it (f:W->W):Nat->W->W
 | 0,w=>w
 | k+1,w=>f (it f k w)
section
variable {f:W->W}{L:List W}{w:W}{p:Nat}
end
end Wd
namespace Wd
section
variable {f:W->W}{r:W}{n:Nat}{L:List W}
end
end Wd
namespace Wd
open Hg
def lastL (w:W):Nat:=w.getD (w.length-1) 0
section
variable {ms us xs ys:List W}{p q r t e w0:W}{n:Nat}
theorem w_split {w:W}(h:1<=w.length):w=beg w++[lastL w]:=by
 unfold beg lastL
 conv=>lhs;rw [<- List.take_append_drop (w.length-1) w]
 congr 1
 rw [List.drop_eq_getElem_cons (by omega),List.drop_eq_nil_of_le (by omega),List.getD_eq_getElem?_getD,List.getElem?_eq_getElem (by omega)]
 rfl
theorem beg_len {w:W}:(beg w).length=w.length-1:=by unfold beg;rw [List.length_take];omega
theorem row_text (hn:1<=n):∀ (k:Nat) {us:List W} {p q:W},us.length=k->Tr beg fin p us q->p.length=n-1->(∀ w∈us,w.length=n)->rowW (p++us.map lastL) n=us∧(p++us.map lastL).drop us.length=q
 | 0,us,p,q,hk,h,hp,hl=>by
  obtain rfl:us=[]:=List.length_eq_zero_iff.mp hk
  refine ⟨?_,?_⟩
  ·unfold rowW
   rw [List.map_nil,List.append_nil,hp,show n-1+1-n=0 by omega]
   rfl
  ·rw [List.map_nil,List.append_nil,List.length_nil,List.drop_zero];exact h
 | k+1,us,p,q,hk,h,hp,hl=>by
  have hne:us≠[]:=fun z=>by rw [z] at hk;cases hk
  obtain ⟨xs,w,rfl⟩:∃ xs w,us=xs++[w]:=⟨us.dropLast,us.getLast hne,(List.dropLast_concat_getLast hne).symm⟩
  obtain ⟨t1,rfl⟩:=Tr.cut (p:=p) h
  rw [List.length_append,List.length_singleton] at hk
  obtain ⟨h1,h2⟩:=row_text hn k (by omega) t1 hp fun w hw=>hl w (List.mem_append_left _ hw)
  have hw:=hl w (by simp)
  have hlen:(p++xs.map lastL).length=n-1+xs.length:=by rw [List.length_append,List.length_map,hp]
  have e:p++(xs++[w]).map lastL=(p++xs.map lastL)++[lastL w]:=by rw [List.map_append,<- List.append_assoc];rfl
  have hs:=w_split (w:=w) (by omega)
  refine ⟨?_,?_⟩
  ·rw [e,rowW_snoc hn (by omega),h1,hlen,show n-1+xs.length+1-n=xs.length by omega,h2,<- hs]
  ·rw [e,List.length_append,List.length_singleton,<- List.drop_drop,List.drop_append_of_le_length (by omega),h2,<- hs]
   rfl
theorem ring_text (hn:1<=n)(h:Tr beg fin p us p)(hp:p.length=n-1)(hl:∀ w∈us,w.length=n)(h0:0<us.length):ringW ((p++us.map lastL).take us.length) n=us:=by
 obtain ⟨h1,h2⟩:=row_text hn _ rfl h hp hl
 rw [rowW_closed h0 hn (by rw [List.length_append,List.length_map,hp];omega) (by rw [h2,List.take_append_of_le_length (by omega),List.take_of_length_le (by omega)]),h1]
theorem ring_tr0 {t:W}:Tr beg fin (beg (ringAt t n 0)) (ringW t n) (beg (ringAt t n 0)):=by
 have hs:=seg_tr' (t:=t) (n:=n) (i:=0) (j:=t.length) (Nat.zero_le _)
 rwa [seg_all,ringAt_end] at hs
end
end Wd
namespace Wd
open Hg
section
variable {ms us vs:List W}{p q m0 t:W}{n:Nat}
theorem cons_lt {c d:Nat}{a b:W}:c::a<d::b↔c<d∨(c=d∧a<b):=List.cons_lt_cons_iff
theorem ring_hd (hn:1<=n):(ringW t n).map hd=t:=by
 rw [<- seg_all,seg_hd hn (Nat.le_refl _),sl_all]
theorem ring_row (hn:1<=n)(hl:∀ w∈ringW t n,w.length=n)(h0:0<t.length)(hm:ringAt t n 0=m0)(hm0:m0.length=n):(beg m0++(ringW t n).map lastL).take t.length=t:=by
 have htr:Tr beg fin (beg m0) (ringW t n) (beg m0):=hm▸ring_tr0
 have hr:=ring_text hn htr (by rw [beg_len,hm0]) hl (by rw [ringW_len];exact h0)
 rw [ringW_len] at hr
 rw [<- ring_hd (t:=(beg m0++(ringW t n).map lastL).take t.length) hn,hr,ring_hd hn]
end
end Wd
namespace Dt
open Wd Hg
theorem fm_get {α β:Type}{f:α->List β}{x:α}{l:List α}{k:Nat}:((x::l).flatMap f)[k]?=if k<(f x).length then (f x)[k]? else (l.flatMap f)[k-(f x).length]?:=by
 rw [List.flatMap_cons,List.getElem?_append]
theorem fm_skip {α β:Type}{f:α->List β}{l:List α}{k:Nat}:∀ pre:List α,((pre++l).flatMap f)[(pre.map fun x=>(f x).length).sum+k]?=(l.flatMap f)[k]?
 | []=>by rw [List.nil_append,List.map_nil];show (l.flatMap f)[0+k]?=_;rw [Nat.zero_add]
 | x::pre=>by
  rw [List.cons_append,fm_get,List.map_cons,List.sum_cons,if_neg (by omega),show (f x).length+(pre.map fun x=>(f x).length).sum+k-(f x).length=(pre.map fun x=>(f x).length).sum+k by omega]
  exact fm_skip pre
def rk (b:W):List W->List W->Nat
 | _,[]=>0
 | E,w::us=>(((og E (beg w)).filter fun x=>decide (x<w)).map fun x=>eN (rm E x) (fin x) b).sum+rk b (rm E w) us
theorem asc_split {w:W}:∀ {l:List W},l.Pairwise (· < ·)->w∈l->∃ post,l=(l.filter fun x=>decide (x<w))++w::post
 | x::l,h,hw=>by
  rw [List.pairwise_cons] at h
  by_cases e:x=w
  ·subst e
   refine ⟨l,?_⟩
   rw [List.filter_cons_of_neg (by simp [List.lt_irrefl]),List.filter_eq_nil_iff.mpr fun y hy z=>List.lt_asymm (h.1 y hy) (of_decide_eq_true z)]
   rfl
  ·have hwl:=(List.mem_cons.mp hw).resolve_left (Ne.symm e)
   obtain ⟨post,hp⟩:=asc_split h.2 hwl
   refine ⟨post,?_⟩
   rw [List.filter_cons_of_pos (by exact decide_eq_true (h.1 w hwl)),List.cons_append,<- hp]
theorem asc_of {E:List W}(hn:E.Nodup)(hs:E.Pairwise fun x y=>¬ y<x):E.Pairwise (· < ·):=by
 refine List.Pairwise.imp₂ (fun a b h1 h2=>?_) hs hn
 exact Classical.byContradiction fun z=>h2 (Std.Trichotomous.trichotomous a b z h1)
theorem rk_get:∀ {n:Nat} {E:List W} {a b:W} {us:List W},E.length=n->E.Nodup->E.Pairwise (fun x y=>¬ y<x)->us.Perm E->Tr beg fin a us b->(ordN n E a b)[rk b E us]?=some us
 | 0,E,a,b,us,hl,_,_,hp,ht=>by
  obtain rfl:=List.length_eq_zero_iff.mp hl
  obtain rfl:=List.perm_nil.mp hp
  have e:a=b:=ht
  show (if a=b then [[]] else ([]:List (List W)))[0]?=_
  rw [if_pos e]
  rfl
 | n+1,E,a,b,us,hl,hn,hs,hp,ht=>by
  cases us with
  | nil=>rw [<- hp.length_eq] at hl;cases hl
  | cons w vs =>
   have hwE:w∈E:=hp.mem_iff.mp (List.mem_cons_self ..)
   have hwb:beg w=a:=ht.1
   have hl':(rm E w).length=n:=by have:=rm_len hn hwE;omega
   have ih:=rk_get (a:=fin w) (b:=b) hl' (rm_nd hn) (hs.filter _) (hp.trans (rm_perm hn hwE)).cons_inv ht.2
   have hasc:(og E a).Pairwise (· < ·):=(asc_of hn hs).filter _
   obtain ⟨post,hpost⟩:=asc_split hasc (mem_og.mpr ⟨hwE,hwb⟩)
   show ((og E a).flatMap fun w=>(ordN n (rm E w) (fin w) b).map fun us=>w::us)[(((og E (beg w)).filter fun x=>decide (x<w)).map fun x=>eN (rm E x) (fin x) b).sum+rk b (rm E w) vs]?=_
   rw [hwb]
   have e1:((og E a).filter fun x=>decide (x<w)).map (fun x=>eN (rm E x) (fin x) b)=((og E a).filter fun x=>decide (x<w)).map fun x=>((ordN n (rm E x) (fin x) b).map fun us=>x::us).length:=List.map_congr_left fun x hx=>by
    have:=rm_len hn (mem_og.mp (List.mem_filter.mp hx).1).1
    rw [List.length_map]
    unfold eN
    rw [show (rm E x).length=n by omega]
   rw [e1]
   generalize hpre:(og E a).filter (fun x=>decide (x<w))=pre at hpost
   rw [hpost,fm_skip pre,fm_get]
   have hlt:rk b (rm E w) vs<(ordN n (rm E w) (fin w) b).length:=(List.getElem?_eq_some_iff.mp ih).1
   rw [List.length_map,if_pos hlt,List.getElem?_map,ih]
   rfl
theorem rk_lt {E us:List W}{a b:W}(hn:E.Nodup)(hs:E.Pairwise fun x y=>¬ y<x)(hp:us.Perm E)(ht:Tr beg fin a us b):rk b E us<eN E a b:=(List.getElem?_eq_some_iff.mp (rk_get rfl hn hs hp ht)).1
theorem ord_of {E us:List W}{a b:W}{k:Nat}(hn:E.Nodup)(h:(ordN E.length E a b)[k]?=some us):us.Perm E∧Tr beg fin a us b:=(mem_ord rfl hn).mp (List.mem_of_getElem? h)
theorem rk_of {E us:List W}{a b:W}{k:Nat}(hn:E.Nodup)(hs:E.Pairwise fun x y=>¬ y<x)(h:(ordN E.length E a b)[k]?=some us):rk b E us=k:=by
 obtain ⟨h1,h2⟩:=ord_of hn h
 have h3:=rk_get rfl hn hs h1 h2
 have hnd:=ord_nd (a:=a) (b:=b) rfl hn
 obtain ⟨i1,e1⟩:=List.getElem?_eq_some_iff.mp h3
 obtain ⟨i2,e2⟩:=List.getElem?_eq_some_iff.mp h
 exact (List.getElem_inj hnd).mp (e1.trans e2.symm)
theorem app_lt {p x y:W}:p++x<p++y↔x<y:=by
 induction p with
 | nil=>exact Iff.rfl
 | cons c p ih =>
  rw [List.cons_append,List.cons_append,cons_lt]
  constructor
  ·rintro (h | h)
   ·omega
   ·exact ih.mp h.2
  ·intro h
   exact .inr ⟨rfl,ih.mpr h⟩
theorem lt_cut {s:W}:∀ {x y:W},x.length=y.length->x++s<y++s->x<y
 | [],[],_,h=>absurd h (List.lt_irrefl _)
 | c::x,d::y,hl,h=>by
  rw [List.cons_append,List.cons_append,cons_lt] at h
  rw [cons_lt]
  rcases h with h | h
  ·exact .inl h
  ·exact .inr ⟨h.1,lt_cut (by simpa using hl) h.2⟩
theorem last_lt {w v:W}(h1:1<=w.length)(h2:1<=v.length)(hb:beg w=beg v)(h:w<v):lastL w<lastL v:=by
 rw [w_split h1,w_split h2,hb,app_lt,cons_lt] at h
 rcases h with h | h
 ·exact h
 ·exact absurd h.2 (List.lt_irrefl _)
theorem ord_lt:∀ {n:Nat} {E:List W} {a b:W},E.length=n->E.Nodup->E.Pairwise (fun x y=>¬ y<x)->(∀ w∈E,1<=w.length)->(ordN n E a b).Pairwise fun us vs=>us.map lastL<vs.map lastL
 | 0,E,a,b,_,_,_,_=>by
  show (if a=b then [[]] else ([]:List (List W))).Pairwise _
  split <;> simp
 | n+1,E,a,b,hl,hn,hs,hlen=>by
  show ((og E a).flatMap fun w=>(ordN n (rm E w) (fin w) b).map fun us=>w::us).Pairwise _
  rw [List.pairwise_flatMap]
  refine ⟨fun w hw=>?_,?_⟩
  ·have hwE:=(mem_og.mp hw).1
   refine List.pairwise_map.mpr ((ord_lt (by have:=rm_len hn hwE;omega) (rm_nd hn) (hs.filter _) fun x hx=>hlen x (mem_rm.mp hx).1).imp fun {us vs} h=>?_)
   rw [List.map_cons,List.map_cons,cons_lt]
   exact .inr ⟨rfl,h⟩
  ·refine List.Pairwise.imp_of_mem (fun {w v} hw hv h us hu vs hv'=>?_) ((asc_of hn hs).filter _)
   obtain ⟨us',_,rfl⟩:=List.mem_map.mp hu
   obtain ⟨vs',_,rfl⟩:=List.mem_map.mp hv'
   obtain ⟨hw1,hw2⟩:=mem_og.mp hw
   obtain ⟨hv1,hv2⟩:=mem_og.mp hv
   rw [List.map_cons,List.map_cons,cons_lt]
   exact .inl (last_lt (hlen w hw1) (hlen v hv1) (hw2.trans hv2.symm) h)
def rT (m0:W)(us:List W):W:=(beg m0++(m0::us).map lastL).take (us.length+1)
section
variable {m0:W}{us vs ms:List W}{n:Nat}
theorem rT_win (hn:1<=n)(hl:∀ w∈m0::us,w.length=n)(h:Tr beg fin (beg m0) (m0::us) (beg m0)):ringW (rT m0 us) n=m0::us :=
 ring_text hn h (by rw [beg_len,hl m0 (List.mem_cons_self ..)]) hl (Nat.succ_pos _)
theorem rT_full (hn:1<=n)(hl:∀ w∈m0::us,w.length=n)(h:Tr beg fin (beg m0) (m0::us) (beg m0)):beg m0++(m0::us).map lastL=rT m0 us++beg m0:=by
 have h1:=(row_text hn (us.length+1) (us:=m0::us) rfl h (by rw [beg_len,hl m0 (List.mem_cons_self ..)]) hl).2
 have h2:=List.take_append_drop (us.length+1) (beg m0++(m0::us).map lastL)
 rw [show (m0::us).length=us.length+1 from rfl] at h1
 rw [h1] at h2
 exact h2.symm
theorem rT_len (hn:1<=n)(hl:∀ w∈m0::us,w.length=n):(rT m0 us).length=us.length+1:=by
 unfold rT
 rw [List.length_take,List.length_append,List.length_map,List.length_cons]
 omega
theorem rT_lt (hn:1<=n)(hl:∀ w∈m0::us,w.length=n)(hl':∀ w∈m0::vs,w.length=n)(h:Tr beg fin (beg m0) (m0::us) (beg m0))(h':Tr beg fin (beg m0) (m0::vs) (beg m0))(he:us.length=vs.length)(hlt:us.map lastL<vs.map lastL):rT m0 us<rT m0 vs:=by
 refine lt_cut (s:=beg m0) (by rw [rT_len hn hl,rT_len hn hl',he]) ?_
 rw [<- rT_full hn hl h,<- rT_full hn hl' h',app_lt,List.map_cons,List.map_cons,cons_lt]
 exact .inr ⟨rfl,hlt⟩
theorem ring_is {t:W}(hn:1<=n)(hlen:∀ w∈ms,w.length=n)(hp:(ringW t n).Perm ms)(hne:ms≠[])(hf:ringAt t n 0=m0):∃ us,ringW t n=m0::us∧t=rT m0 us∧Tr beg fin (beg m0) (m0::us) (beg m0):=by
 have htl:0<t.length:=by
  have:=hp.length_eq
  rw [ringW_len] at this
  have:=List.length_pos_iff.mpr hne
  omega
 obtain ⟨x,us,hx⟩:∃ x us,ringW t n=x::us:=by
  cases e:ringW t n with
  | nil=>have:=ringW_len t n;rw [e] at this;simp at this;omega
  | cons x us=>exact ⟨x,us,rfl⟩
 have hx0:x=m0:=by
  have h1:(ringW t n)[0]?=some (ringAt t n 0):=by
   unfold ringW
   rw [List.getElem?_map,List.getElem?_range htl]
   rfl
  rw [hx,hf] at h1
  exact Option.some.inj h1
 subst hx0
 have hl:∀ w∈ringW t n,w.length=n:=fun w hw=>hlen w (hp.mem_iff.mp hw)
 have htr:=ring_tr0 (t:=t) (n:=n)
 rw [hf,hx] at htr
 refine ⟨us,hx,?_,htr⟩
 have h3:=ring_row hn hl htl hf (hl x (by rw [hx];exact List.mem_cons_self ..))
 rw [hx] at h3
 unfold rT
 have h4:t.length=us.length+1:=by rw [<- ringW_len t n,hx];rfl
 rw [<- h4]
 exact h3.symm
end
end Dt
namespace L2
open PySem PySem.Spec PyProof.Rows
def tx (l:List Nat):Str:=⟨l.toArray⟩
abbrev T (l:List Nat):V:=.str (tx l)
theorem tx_len (l:List Nat):(tx l).length=l.length:=by simp [tx,Str.length]
theorem tx_cps (l:List Nat):(tx l).cps.toList=l:=by simp [tx]
theorem tx_eta (x:Str):tx x.cps.toList=x:=by cases x;simp [tx]
theorem tx_inj {a b:List Nat}(h:tx a=tx b):a=b:=by
 have e:=congrArg (fun x:Str=>x.cps.toList) h
 simpa [tx] using e
theorem T_inj {a b:List Nat}(h:T a=T b):a=b:=tx_inj (V.str.inj h)
theorem T_dec {a b:List Nat}:decide (T a=T b)=decide (a=b):=by
 rw [Bool.eq_iff_iff,decide_eq_true_iff,decide_eq_true_iff]
 exact ⟨T_inj,fun h=>by rw [h]⟩
theorem tx_app (a b:List Nat):tx a++tx b=tx (a++b):=by
 rw [<- tx_eta (tx a++tx b),PySem.W.KT.app_list,tx_cps,tx_cps]
section
variable {X:Cx}
theorem op_add_T:OpR X (binaryOp .Add) (fun x y H Q=>∃ a,x=T a∧∃ b,y=T b∧a.length+b.length<=sizeLine∧Q (T (a++b)) H):=by
 intro pins s σ H x y v u Q I rx ry h
 obtain ⟨a,e1,b,e2,hz,q⟩:=h
 exact op_add_str pins s σ H x y v u Q I rx ry ⟨tx a,tx b,e1,e2,by rw [tx_len,tx_len];exact hz,by rw [tx_app];exact q⟩
theorem op_lt_T:OpR X (compareOp .Lt) (fun x y H Q=>∃ a,x=T a∧∃ b,y=T b∧Q (.bl (decide (a<b))) H):=by
 intro pins s σ H x y v u Q I rx ry h
 obtain ⟨a,e1,b,e2,q⟩:=h
 exact op_lt_str pins s σ H x y v u Q I rx ry ⟨tx a,tx b,e1,e2,by rw [tx_cps,tx_cps];exact q⟩
theorem op_ge_T:OpR X (compareOp .GtE) (fun x y H Q=>∃ a,x=T a∧∃ b,y=T b∧Q (.bl (!decide (a<b))) H):=by
 intro pins s σ H x y v u Q I rx ry h
 obtain ⟨a,rfl,b,rfl,q⟩:=h
 obtain ⟨t,rfl⟩:=rx
 obtain ⟨t',rfl⟩:=ry
 exact PySem.P.ge_str (fin_bl I q (by rw [tx_cps,tx_cps]))
theorem op_eq_T:OpR X (compareOp .Eq) (fun x y H Q=>∃ a,x=T a∧∃ b,y=T b∧Q (.bl (decide (a=b))) H):=by
 intro pins s σ H x y v u Q I rx ry h
 obtain ⟨a,rfl,b,rfl,q⟩:=h
 exact op_eq pins s σ H _ _ v u Q I rx ry ⟨rfl,by rw [T_dec];exact q⟩
theorem op_ne_T:OpR X (compareOp .NotEq) (fun x y H Q=>∃ a,x=T a∧∃ b,y=T b∧Q (.bl (!decide (a=b))) H):=by
 intro pins s σ H x y v u Q I rx ry h
 obtain ⟨a,rfl,b,rfl,q⟩:=h
 exact op_ne pins s σ H _ _ v u Q I rx ry ⟨rfl,by rw [T_dec];exact q⟩
theorem op_eq_I:OpR X (compareOp .Eq) (fun x y H Q=>∃ a,x = .int a∧∃ b,y = .int b∧Q (.bl (decide (a=b))) H):=by
 intro pins s σ H x y v u Q I rx ry h
 obtain ⟨a,rfl,b,rfl,q⟩:=h
 exact op_eq pins s σ H _ _ v u Q I rx ry ⟨rfl,by rw [dec_int,Bool.beq_eq_decide_eq];exact q⟩
theorem op_ne_I:OpR X (compareOp .NotEq) (fun x y H Q=>∃ a,x = .int a∧∃ b,y = .int b∧Q (.bl (!decide (a=b))) H):=by
 intro pins s σ H x y v u Q I rx ry h
 obtain ⟨a,rfl,b,rfl,q⟩:=h
 exact op_ne pins s σ H _ _ v u Q I rx ry ⟨rfl,by rw [dec_int,Bool.beq_eq_decide_eq];exact q⟩
def cutL (l:List Nat)(lo hi:Option Int):List Nat:=(l.drop (HT.sIx l.length 0 lo)).take (HT.sIx l.length l.length hi-HT.sIx l.length 0 lo)
theorem clip_sIx (v:Option Int)(n d:Nat):(match v with | none=>(d:Int) | some i=>max 0 (min (if i<0 then i+(n:Int) else i) (n:Int)))=((HT.sIx n d v:Nat):Int):=by
 cases v with
 | none=>rfl
 | some i =>
  show max 0 (min (if i<0 then i+(n:Int) else i) (n:Int))=(((if i<0 then (i+(n:Int)).toNat else min i.toNat n):Nat):Int)
  by_cases hi:i<0
  ·simp only [if_pos hi];omega
  ·simp only [if_neg hi];omega
theorem indices_sIx (lo hi:Option Int)(n:Nat):Builtin.Str.strSliceIndices lo hi 1 n=Builtin.Str.strSliceIndices (some ((HT.sIx n 0 lo:Nat):Int)) (some ((HT.sIx n n hi:Nat):Int)) 1 n:=by
 have h1:=HT.sIx_le n 0 (Nat.zero_le _) lo
 have h2:=HT.sIx_le n n (Nat.le_refl _) hi
 have c1:=clip_sIx lo n 0
 have c2:=clip_sIx hi n n
 have d1:=clip_sIx (some ((HT.sIx n 0 lo:Nat):Int)) n 0
 have d2:=clip_sIx (some ((HT.sIx n n hi:Nat):Int)) n n
 rw [HT.sIx_nat,Nat.min_eq_left h1] at d1
 rw [HT.sIx_nat,Nat.min_eq_left h2] at d2
 unfold Builtin.Str.strSliceIndices
 simp only [show ((1:Int)>0) from by decide,if_true]
 have g:∀ a b c d:Int,a=c->b=d->sliceRange a b 1=sliceRange c d 1:=fun a b c d h1 h2=>by rw [h1,h2]
 exact g _ _ _ _ (c1.trans d1.symm) (c2.trans d2.symm)
theorem slice_tx (l:List Nat)(lo hi:Option Int):Txt.slice (tx l) lo hi=tx (cutL l lo hi):=by
 have h1:=HT.sIx_le l.length 0 (Nat.zero_le _) lo
 have h2:=HT.sIx_le l.length l.length (Nat.le_refl _) hi
 unfold Txt.slice
 rw [tx_len,indices_sIx]
 by_cases hab:HT.sIx l.length 0 lo<=HT.sIx l.length l.length hi
 ·have e:=StrLaws.sliceText_nat (tx l) hab (by rw [tx_len];exact h2)
  unfold StrLaws.sliceText at e
  rw [tx_len,tx_cps] at e
  exact e
 ·have e0:Builtin.Str.strSliceIndices (some ((HT.sIx l.length 0 lo:Nat):Int)) (some ((HT.sIx l.length l.length hi:Nat):Int)) 1 l.length=[]:=by
   unfold Builtin.Str.strSliceIndices sliceRange
   have n1:¬ (((HT.sIx l.length 0 lo:Nat):Int)<0):=by omega
   have n2:¬ (((HT.sIx l.length l.length hi:Nat):Int)<0):=by omega
   simp only [show ((1:Int)>0) from by decide,if_true,if_neg n1,if_neg n2]
   have n3:¬ (max (0:Int) (min ((HT.sIx l.length 0 lo:Nat):Int) (l.length:Int))<max (0:Int) (min ((HT.sIx l.length l.length hi:Nat):Int) (l.length:Int))):=by omega
   simp [n3]
  have e1:cutL l lo hi=[]:=by
   unfold cutL
   rw [show HT.sIx l.length l.length hi-HT.sIx l.length 0 lo=0 by omega,List.take_zero]
  rw [e0,e1]
  cases l with
  | nil=>rfl
  | cons c r=>rfl
theorem sl_T:SlR X (fun x lo hi H Q=>∃ a,x=T a∧a.length<=sizeLine∧Q (T (cutL a lo hi)) H):=by
 intro pins s σ H x v vl vu lo hi sl Q I rx hs pl pu h
 obtain ⟨a,rfl,hz,q⟩:=h
 obtain ⟨t,rfl⟩:=rx
 obtain ⟨l,hl1,hl2⟩:∃ l:Option (Int×Tok),partValue l=vl∧l.map (·.1)=lo:=by
  cases pl with
  | none=>exact ⟨none,rfl,rfl⟩
  | int i t=>exact ⟨some (i,t),rfl,rfl⟩
 obtain ⟨u,hu1,hu2⟩:∃ u:Option (Int×Tok),partValue u=vu∧u.map (·.1)=hi:=by
  cases pu with
  | none=>exact ⟨none,rfl,rfl⟩
  | int i t=>exact ⟨some (i,t),rfl,rfl⟩
 refine ⟨"str",_,F.slot_str_getitem.lookup,typeIs_str _ _ _,?_⟩
 have hsl:s.heap.IsSlice sl l u none:=by
  obtain ⟨o,ho,hc,hd⟩:=hs
  exact ⟨o,ho,hc,by rw [hl1,hu1];exact hd⟩
 refine wpAny_getItem_str_slice hsl rfl ?_
 have key:(if ((1:Int)==1&&(Builtin.Str.strSliceIndices lo hi 1 (tx a).length).length==(tx a).length)=true then (tx a) else ⟨((Builtin.Str.strSliceIndices lo hi 1 (tx a).length).filterMap ((tx a).cps[·]?)).toArray⟩)=tx (cutL a lo hi):=slice_tx a lo hi
 unfold sliceMade slicePicked
 rw [hl2,hu2]
 refine post_val_or_str ⟨?_,fun t' k=>?_⟩
 ·show (Txt.slice (tx a) lo hi).length<=sizeLine
  exact Nat.le_trans (Txt.slice_le _ _ _) (by rw [tx_len];exact hz)
 ·refine ⟨T (cutL a lo hi),H,I.tok _,⟨t',?_⟩,q⟩
  exact congrArg (fun z=>Value.str z t') key
theorem rep_length (n:Nat)(l:List Nat):(Wd.rep n l).length=n*l.length:=Wd.rep_len n l
theorem foldl_cps (n:Nat)(c:Array Nat):∀ acc:Array Nat,(List.replicate n c).foldl (· ++ ·) acc=acc++(Wd.rep n c.toList).toArray:=by
 induction n with
 | zero=>intro acc;simp [Wd.rep]
 | succ n ih =>
  intro acc
  rw [List.replicate_succ,List.foldl_cons,ih]
  rw [Wd.rep_succ,Array.append_assoc]
  congr 1
  apply Array.ext'
  simp
theorem mul_tx (n:Nat)(l:List Nat):Txt.mul (tx l) (n:Int)=tx (Wd.rep n l):=by
 unfold Txt.mul
 by_cases h1:(n:Int)<1
 ·have e:n=0:=by omega
  subst e
  rw [if_pos h1]
  rfl
 ·rw [if_neg h1]
  by_cases h2:((n:Int)==1||(tx l).length==0)=true
  ·rw [if_pos h2]
   rw [Bool.or_eq_true,beq_iff_eq,beq_iff_eq,tx_len] at h2
   rcases h2 with h2 | h2
   ·have e:n=1:=by omega
    subst e
    rw [Wd.rep_one]
   ·have e:l=[]:=List.length_eq_zero_iff.mp h2
    subst e
    have:Wd.rep n []=[]:=List.length_eq_zero_iff.mp (by rw [rep_length];simp)
    rw [this]
  ·rw [if_neg h2,Int.toNat_natCast,foldl_cps]
   simp [tx]
theorem op_mul_T:OpR X (binaryOp .Mult) (fun x y H Q=>∃ a,x=T a∧∃ n:Nat,y = .int n∧(n<=sizeLine∧n*a.length<=sizeLine)∧Q (T (Wd.rep n a)) H):=by
 intro pins s σ H x y v u Q I rx ry h
 obtain ⟨a,rfl,n,rfl,⟨h1,h2⟩,q⟩:=h
 obtain ⟨t,rfl⟩:=rx
 obtain ⟨t',rfl⟩:=ry
 have hs:sizeLine=16777216:=sizeLine_eq
 refine SB.mul ⟨?_,?_,?_⟩ fun t' k=>⟨T (Wd.rep n a),H,I.tok _,⟨t',by rw [mul_tx]⟩,q⟩
 ·have e1:decide ((n:Int) < -(2 ^ 63:Int))=false:=decide_eq_false (by omega)
  have e2:decide ((n:Int)≥2 ^ 63)=false:=decide_eq_false (by omega)
  rw [e1,e2]
  rfl
 ·intro hn _
  rw [tx_len]
  have h3:n*a.length<=16777216:=by omega
  intro hc
  have h4:((n*a.length:Nat):Int)<=16777216:=by omega
  have hn':(0:Int)<n:=by omega
  have h5:((2 ^ 63-1)/(n:Int))*n<=2 ^ 63-1:=Int.ediv_mul_le _ (by omega)
  have h6:(2 ^ 63-1:Int)<((2 ^ 63-1)/(n:Int)+1)*n:=Int.lt_ediv_add_one_mul_self _ hn'
  have h7:((2 ^ 63-1)/(n:Int)+1)*n<=(a.length:Int)*n:=Int.mul_le_mul_of_nonneg_right (by omega) (by omega)
  have h8:((n*a.length:Nat):Int)=(a.length:Int)*n:=by rw [Int.natCast_mul,Int.mul_comm]
  omega
 ·intro hn _
  rw [tx_len,Int.toNat_natCast,Nat.mul_comm]
  unfold Builtin.Str.tooLong
  exact decide_eq_false (by omega)
theorem strsAre_T:∀ {ls:List (List Nat)} {us:List Value},Vals (ls.map T) us->StrsAre us (ls.map tx)
 | [],us,r=>by
  cases r
  exact .nil
 | l::ls,us,r=>by
  rw [List.map_cons] at r
  cases r with
  | cons r1 r2 =>
   obtain ⟨t,rfl⟩:=r1
   exact .cons _ _ (strsAre_T r2)
theorem glued_empty:∀ (ls:List (List Nat)) (acc:Array Nat),(ls.map tx).foldl (fun acc p=>acc++(tx []).cps++p.cps) acc=acc++ls.flatten.toArray
 | [],acc=>by simp
 | l::ls,acc=>by
  rw [List.map_cons,List.foldl_cons,glued_empty ls]
  simp [tx]
theorem join_tx (ls:List (List Nat)):Txt.join (tx []) (ls.map tx)=tx ls.flatten:=by
 unfold Txt.join Builtin.Str.glued
 cases ls with
 | nil=>rfl
 | cons l ls =>
  rw [List.map_cons,List.drop_succ_cons,List.drop_zero,List.headD_cons,glued_empty]
  simp [tx]
theorem sum_len_tx (ls:List (List Nat)):((ls.map tx).map (·.length)).sum=ls.flatten.length:=by
 induction ls with
 | nil=>rfl
 | cons l ls ih=>rw [List.map_cons,List.map_cons,List.sum_cons,ih,List.flatten_cons,List.length_append,tx_len]
theorem mt_join:MtR X "str.join" (fun x xs H Q=>x=T []∧∃ (p:Addr) (ls:List (List Nat)),xs=[.ref p]∧SqL X.K H p (ls.map T)∧ls.flatten.length<=sizeLine∧Q (T ls.flatten) H):=by
 intro pins s σ H x xs v us Q I rx rs h
 obtain ⟨rfl,p,ls,rfl,hq,hz,q⟩:=h
 obtain ⟨t,rfl⟩:=rx
 obtain ⟨u,rfl,ru⟩:=vals1 rs
 cases ru
 obtain ⟨its,r,pl,_⟩:=I.list hq
 have hs:sizeLine=16777216:=sizeLine_eq
 refine join_list pl.isList (ys:=ls.map tx) (by simpa using strsAre_T r) ?_ fun t' k=>⟨T ls.flatten,H,I.tok _,⟨t',by rw [join_tx]⟩,q⟩
 rw [sum_len_tx,tx_len,List.length_nil,Nat.mul_zero]
 omega
end
end L2
namespace L2
theorem cutL_from {w:List Nat}{k:Nat}(h:k<=w.length):cutL w (some (k:Int)) none=w.drop k:=by
 unfold cutL
 rw [HT.sIx_nat,HT.sIx_none,Nat.min_eq_left h]
 exact List.take_of_length_le (by rw [List.length_drop];omega)
theorem cutL_to {w:List Nat}{k:Nat}(h:k<=w.length):cutL w none (some (k:Int))=w.take k:=by
 unfold cutL
 rw [HT.sIx_nat,HT.sIx_none,Nat.min_eq_left h,List.drop_zero,Nat.sub_zero]
theorem cutL_mid {w:List Nat}{a b:Nat}(hb:b<=w.length)(hab:a<=b):cutL w (some (a:Int)) (some (b:Int))=(w.drop a).take (b-a):=by
 unfold cutL
 rw [HT.sIx_nat,HT.sIx_nat,Nat.min_eq_left hb,Nat.min_eq_left (show a<=w.length by omega)]
end L2
namespace L2
open PySem PySem.Spec PyProof.Rows
set_option genInjectivity false in
structure CompSc (N N':List Str)(sc scope:Scope)(x:Str):Prop where
 kind:scope.kind = .function
 cell:∀ y∈scope.names,y.2≠.cell
 names:∀ y∈scope.names,y.2 = .local->scope.names.lookup y.1=some .local
 var:scope.names.lookup x=some .local
 ok:∀ y∈scope.names,y.2 = .free->sc.names.lookup y.1=some .cell∨sc.names.lookup y.1=some .free
 hd:N'[0]?=some x
 len:N'.length=N.length+1
 sub:∀ i,i<N.length->N'[i+1]?=N[i]?∨(N'[i+1]?.map fun y=>scope.names.lookup y)=some none
 noe:scope.names.lookup ("" : Str)=none
 nol:∀ y∈N'.tail,scope.names.lookup y≠some .local
 nd:N'.Nodup
def closOf (cells:List (Str×Addr)):List (Str×NameKind)->List (Str×Addr)->List (Str×Addr)
 | [],acc=>acc
 | (n,k)::r,acc=>closOf cells r (if k == .free then (n,(cells.lookup n).getD 0)::acc else acc)
theorem clos_sound {cells:List (Str×Addr)}{y:Str}{c:Addr}:∀ (names:List (Str×NameKind)) (acc:List (Str×Addr)),(∀ z∈names,z.2 = .free->∃ c,cells.lookup z.1=some c) ->
  (acc.lookup y=some c->cells.lookup y=some c)->(closOf cells names acc).lookup y=some c->cells.lookup y=some c
 | [],acc,_,ha,h=>ha h
 | (n,k)::r,acc,hz,ha,h=>by
  unfold closOf at h
  refine clos_sound r _ (fun z hm=>hz z (List.mem_cons_of_mem _ hm)) (fun q=>?_) h
  split at q
  ·rename_i hk
   obtain ⟨c',e⟩:=hz (n,k) List.mem_cons_self (by simpa using hk)
   rw [List.lookup_cons] at q
   split at q
   ·rename_i he
    have:y=n:=by simpa using he
    subst this
    rw [e] at q
    rw [e]
    exact q
   ·exact ha q
  ·exact ha q
theorem clos_acc {cells:List (Str×Addr)}{y:Str}:∀ (names:List (Str×NameKind)) (acc:List (Str×Addr)),(∃ c,acc.lookup y=some c)->∃ c,(closOf cells names acc).lookup y=some c
 | [],acc,h=>h
 | (n,k)::r,acc,⟨c,h⟩=>by
  unfold closOf
  refine clos_acc r _ ?_
  split
  ·rw [List.lookup_cons]
   split
   ·exact ⟨_,rfl⟩
   ·exact ⟨c,h⟩
  ·exact ⟨c,h⟩
theorem clos_has {cells:List (Str×Addr)}{y:Str}:∀ (names:List (Str×NameKind)) (acc:List (Str×Addr)),(y,NameKind.free)∈names->∃ c,(closOf cells names acc).lookup y=some c
 | (n,k)::r,acc,h=>by
  unfold closOf
  rcases List.mem_cons.mp h with e | h
  ·cases e
   refine clos_acc r _ ⟨(cells.lookup y).getD 0,?_⟩
   simp
  ·exact clos_has r _ h
theorem clos_eq {scope:Scope}{env:Env}(h:∀ z∈scope.names,z.2 = .free->∃ c,env.cells.lookup z.1=some c):closureFor scope env=pure (closOf env.cells scope.names []):=by
 have gen:∀ (names:List (Str×NameKind)) (acc:List (Str×Addr)),(∀ z∈names,z.2 = .free->∃ c,env.cells.lookup z.1=some c) ->
   (forIn names acc fun (x:Str×NameKind) (r:List (Str×Addr))=>(if (x.2==NameKind.free)=true then (do let a <- cellOf env x.1;pure (ForInStep.yield ((x.1,a)::r))) else pure (ForInStep.yield r):Sem (ForInStep (List (Str×Addr)))))=(pure (closOf env.cells names acc):Sem (List (Str×Addr))):=by
  intro names
  induction names with
  | nil=>intro acc _;rfl
  | cons z r ih =>
   intro acc hz
   obtain ⟨n,k⟩:=z
   rw [List.forIn_cons]
   unfold closOf
   by_cases hk:(k==NameKind.free)=true
   ·obtain ⟨c,e⟩:=hz (n,k) List.mem_cons_self (by simpa using hk)
    have e':env.cells.lookup n=some c:=e
    simp only [hk,if_true,cellOf,e',pure_bind,Option.getD_some]
    exact ih _ fun z hm=>hz z (List.mem_cons_of_mem _ hm)
   ·simp only [hk,Bool.false_eq_true,if_false,pure_bind]
    exact ih _ fun z hm=>hz z (List.mem_cons_of_mem _ hm)
 have g:=gen scope.names [] h
 unfold closureFor
 refine Eq.trans ?_ (congrArg (fun (m:Sem (List (Str×Addr)))=>m >>= fun cs=>pure cs) g)
 rfl
theorem relabel_lookup (scope:Scope)(env:Env)(y:Str):(relabel scope env).names.lookup y=(scope.names.lookup y).map fun k=>if (k==NameKind.free&&env.scope.kind == .function&&env.kindOf y==some .cell)=true then NameKind.cell else k:=by
 unfold relabel
 show List.lookup y (scope.names.map fun (n,k)=>if (k==NameKind.free&&env.scope.kind == .function&&env.kindOf n==some .cell)=true then (n,NameKind.cell) else (n,k))=_
 induction scope.names with
 | nil=>rfl
 | cons z r ih =>
  obtain ⟨n,k⟩:=z
  rw [List.map_cons]
  by_cases hy:(y==n)=true
  ·have e:y=n:=by simpa using hy
   subst e
   by_cases hc:(k==NameKind.free&&env.scope.kind == .function&&env.kindOf y==some .cell)=true
   ·simp only [hc,if_true,List.lookup_cons,beq_self_eq_true,Option.map_some]
   ·simp only [hc,if_false,List.lookup_cons,beq_self_eq_true,Option.map_some,Bool.false_eq_true]
  ·have hy':(y==n)=false:=by simpa using hy
   by_cases hc:(k==NameKind.free&&env.scope.kind == .function&&env.kindOf n==some .cell)=true
   ·simp only [hc,if_true,List.lookup_cons,hy']
    exact ih
   ·simp only [hc,if_false,List.lookup_cons,hy',Bool.false_eq_true]
    exact ih
theorem lookup_mem {κ:Type}:∀ {l:List (Str×κ)} {y:Str} {k:κ},l.lookup y=some k->(y,k)∈l:=fun h=>PySem.mem_of_lookup h
abbrev cxComp (X:Cx)(N':List Str)(scope:Scope)(cl:List (Str×Addr))(C:Addr)(s:Shared)(H:Hp)(fp:List Addr):Cx :=
 { X with env:=compEnvC scope cl C X.env,N:=N',s₀:=s,H₀:=H,outer:=X.stack,stack:=X.stack,ex:=fp,fn:=fun _=>false,xe:=fun _ _=>False }
abbrev tstF (cds:List Expr)(env:Env):Sem Bool:=forIn cds true fun c r=>if r=true then do let ok <- isTrue c env (eval c env);pure (ForInStep.yield ok) else pure (ForInStep.yield r)
def PTL (X:Cx)(cds:List Expr)(t:TT):Prop :=
 ∀ (pins:List (Addr×Obj)) (s:Shared) (σ:St) (H:Hp) (Q:Bool->Hp->Prop),Inv X pins σ H s->t σ H Q->wpAny (model X.prog X.w) X.A (tstF cds X.env) (TP X pins σ Q) X.xe s
theorem ptl_nil {X:Cx}:PTL X [] (fun _ H k=>k true H):=fun pins s σ H Q I q=>wpAny_tests_nil ⟨H,I,q⟩
theorem ptl_one {X:Cx}{cd:Expr}{tc:TT}(h:PT X cd tc):PTL X [cd] tc:=fun pins s σ H Q I q=>wpAny_tests_one (h pins s σ H Q I q)
theorem codeAny_compLoop_ts {prog:Program}{w:World}{A:Around}{R:Result->Shared->Prop}{s:Shared}{elt target iter:Expr}{cds:List Expr}{scope:Scope}{pos:Pos}{it acc:Value}{env:Env}(I:Nat->Shared->Prop)
  (turn:∀ n s,I n s->wpAny (model prog w) A (pyNext it) (fun r s₁=>match r with
   | none=>R (.ok .next) s₁
   | some v=>wpAny (model prog w) A (letOwnedTupleGo target it v) (fun _ s₁'=>wpAny (model prog w) A (assign target env v) (fun _ s₂=>wpAny (model prog w) A (tstF cds env) (fun ok s₂' =>
    if ok=true then wpAny (model prog w) A (eval elt env) (fun x s₃ =>
     wpAny (model prog w) A (call (.builtin "list.append") [acc,x]) (fun _ s₄=>∃ m,m<n∧I m s₄) (fun _ _=>False) s₃) (fun _ _=>False) s₂'
    else ∃ m,m<n∧I m s₂') (fun _ _=>False) s₂) (fun _ _=>False) s₁') (fun _ _=>False) s₁) (fun _ _=>False) s)
  (n:Nat) (h:I n s) :
  codeAny (model prog w) A (.compLoop (.ListComp elt [⟨target,iter,cds,0⟩] scope pos) 0 it acc env) R s:=by
 refine codeAny_loop rfl I (fun n s hI=>?_) n h
 show wpAny _ A ((compTurn (.ListComp elt [⟨target,iter,cds,0⟩] scope pos) 0 it acc env).onRaise (fun x=>do noteFrame x env;theTreesLotGoes x)) _ _ s
 refine wpAny_noted ?_
 rw [compTurn_list]
 refine wpAny_bind (wpAny_standAt (wpAny_bind (wpAny_mono (turn n s hI) (fun r s₁ h₁=>?_) fun _ _ h'=>h'.elim)))
 cases r with
 | none=>exact wpAny_pure h₁
 | some v =>
  refine wpAny_bind (wpAny_mono h₁ (fun _ s₀ h₀=>?_) fun _ _ h'=>h'.elim)
  refine wpAny_bind (wpAny_mono h₀ (fun _ s₂ h₂=>?_) fun _ _ h'=>h'.elim)
  refine wpAny_bind ((wpAny_mono h₂ (fun ok s₃ h₃=>?_) fun _ _ h'=>h'.elim))
  cases ok with
  | false=>exact wpAny_pure ⟨rfl,by simpa using h₃⟩
  | true =>
   have h₃':=h₃
   simp only [if_true] at h₃'
   exact wpAny_bind (wpAny_bind (wpAny_mono h₃' (fun x s₄ h₄=>wpAny_bind (wpAny_mono h₄ (fun _ s₅ h₅=>wpAny_pure (wpAny_pure ⟨rfl,h₅⟩)) fun _ _ h'=>h'.elim)) fun _ _ h'=>h'.elim))
theorem codeAny_compLoop_any {prog:Program}{w:World}{A:Around}{R:Result->Shared->Prop}{s:Shared}{elt target iter:Expr}{scope:Scope}{pos:Pos}{it acc:Value}{env:Env}(I:Nat->Shared->Prop)
  (turn:∀ n s,I n s->wpAny (model prog w) A (pyNext it) (fun r s₁=>match r with
   | none=>R (.ok .next) s₁
   | some v=>wpAny (model prog w) A (letOwnedTupleGo target it v) (fun _ s₁'=>wpAny (model prog w) A (assign target env v) (fun _ s₂=>wpAny (model prog w) A (eval elt env) (fun x s₃ =>
    wpAny (model prog w) A (call (.builtin "list.append") [acc,x]) (fun _ s₄=>∃ m,m<n∧I m s₄) (fun _ _=>False) s₃)
    (fun _ _=>False) s₂) (fun _ _=>False) s₁') (fun _ _=>False) s₁) (fun _ _=>False) s)
  (n:Nat) (h:I n s) :
  codeAny (model prog w) A (.compLoop (.ListComp elt [⟨target,iter,[],0⟩] scope pos) 0 it acc env) R s:=by
 refine codeAny_loop rfl I (fun n s hI=>?_) n h
 show wpAny _ _ ((compTurn (.ListComp elt [⟨target,iter,[],0⟩] scope pos) 0 it acc env).onRaise (fun x=>do noteFrame x env;theTreesLotGoes x)) _ _ s
 refine wpAny_noted ?_
 rw [compTurn_list1]
 refine wpAny_bind (wpAny_standAt (wpAny_bind (wpAny_mono (turn n s hI) (fun r s₁ h₁=>?_) fun _ _ h'=>h'.elim)))
 cases r with
 | none=>exact wpAny_pure h₁
 | some v =>
  refine wpAny_bind (wpAny_mono h₁ (fun _ s₁' h₁'=>?_) fun _ _ h'=>h'.elim)
  exact wpAny_bind (wpAny_mono h₁' (fun _ s₂ h₂=>wpAny_bind (wpAny_bind (wpAny_mono h₂ (fun x s₃ h₃=>wpAny_bind (wpAny_mono h₃
   (fun _ s₄ h₄=>wpAny_pure (wpAny_pure ⟨rfl,h₄⟩)) fun _ _ h'=>h'.elim)) fun _ _ h'=>h'.elim))) fun _ _ h'=>h'.elim)
def compAt (te:TE)(σ:St)(Q:VK)(J:It)(H1:Hp):Prop:=∀ D,H1 D=none->∃ W:Nat->Nat->List V->Hp->Prop,(∃ m,W 0 m [] (upd H1 D (.lst [])))∧∀ i m ys H2,W i m ys H2 ->
 (J.stop i H2∧Q (.ref D) H2)∨(J.go i H2∧ys.length<sizeLine∧∃ N:V->Hp->Prop,(∀ v H',N v H'->H' D=some (.lst ys)∧∃ m',m'<m∧W (i+1) m' (ys++[v]) (upd H' D (.lst (ys++[v])))) ∧
  ∀ y H',J.yld i H2 y H'->te (some y::σ) H' N)
def tComp (wi:TI)(te:TE):TE:=fun σ H Q=>wi σ H (compAt te σ Q)
def compAtF (tc:TT)(te:TE)(σ:St)(Q:VK)(J:It)(H1:Hp):Prop:=∀ D,H1 D=none->∃ W:Nat->Nat->List V->Hp->Prop,(∃ m,W 0 m [] (upd H1 D (.lst [])))∧∀ i m ys H2,W i m ys H2 ->
 (J.stop i H2∧Q (.ref D) H2)∨(J.go i H2∧ys.length<sizeLine∧∃ N:V->Hp->Prop,(∀ v H',N v H'->H' D=some (.lst ys)∧∃ m',m'<m∧W (i+1) m' (ys++[v]) (upd H' D (.lst (ys++[v])))) ∧
  ∃ Nn:Hp->Prop,(∀ H',Nn H'->∃ m',m'<m∧W (i+1) m' ys H') ∧
  ∀ y H',J.yld i H2 y H'->tc (some y::σ) H' fun b H''=>if b=true then te (some y::σ) H'' N else Nn H'')
def tCompF (wi:TI)(tc:TT)(te:TE):TE:=fun σ H Q=>wi σ H (compAtF tc te σ Q)
section
variable {X:Cx}{N':List Str}{scope:Scope}{x:Str}{px:Pos}{elt iter:Expr}{cds:List Expr}{pos:Pos}{te:TE}{tc:TT}{wi:TI}
theorem compx_core (S:CompSc X.N N' X.env.scope scope x)(hc:X.calm=true)(ht:∀ cl C s H fp,PTL (cxComp X N' scope cl C s H fp) cds tc)(he:∀ cl C s H fp,PE (cxComp X N' scope cl C s H fp) elt te)
  {pins:List (Addr×Obj)} {σ:St} {H:Hp} {s:Shared} {Q:VK} {E:Value->Shared->Prop} {RR:Value->Addr->Result->Shared->Prop} {it:Addr} {fp:List Addr} {tn:Nat->Heap->Prop} {J:It}
  (I:Inv X pins σ H s) (T:Turn X.prog X.w X.K (.Name x px) J fp it tn) (st:tn 0 s.heap) (f2:∀ b∈fp,FpOk X pins H b)
  (hw:compAtF tc te σ Q J H)
  (hRR:∀ D C s' H',Inv X pins σ H' s'->(∃ m,s'.heap.Ns C m)->C≠X.env.locals->(∀ y c,X.env.cells.lookup y=some c->c≠C)->H' C=none->X.s₀.heap.objs.size<=C->(∀ p∈X.pn++pins,p.1≠C)->Q (.ref D) H'->RR (.ref D) C (.ok .next) s') :
  ∃ cl,closureFor scope X.env=pure cl∧wpAny (model X.prog X.w) X.A (newList []) (fun acc s₃=>wpAny (model X.prog X.w) X.A (newFunctionEnv scope X.env.globals cl [] X.env.qual none .none (some X.env)) (fun cenv s₄ =>
   codeAny (model X.prog X.w) X.A (.compStart (.ListComp elt [⟨.Name x px,iter,cds,0⟩] scope pos) 0 (.ref it) acc { cenv with scope:=relabel scope X.env }) (RR acc cenv.locals) s₄) E s₃) E s:=by
 have hfree:∀ z∈scope.names,z.2 = .free->∃ c,X.env.cells.lookup z.1=some c:=fun z hz hk=>by
  rcases S.ok z hz hk with q | q
  ·exact I.ok.has z.1 (.inl q)
  ·exact I.ok.has z.1 (.inr q)
 refine ⟨_,clos_eq hfree,?_⟩
 have clS:∀ y c,(closOf X.env.cells scope.names []).lookup y=some c->X.env.cells.lookup y=some c:=fun y c=>clos_sound scope.names [] hfree fun q=>by cases q
 generalize hcl:closOf X.env.cells scope.names []=cl at clS
 have clH:∀ y,scope.names.lookup y=some .free->∃ c,cl.lookup y=some c:=fun y hy=>by
  rw [<- hcl]
  exact clos_has scope.names [] (lookup_mem hy)
 refine wpAny_newObj_type (wpAny_newFunctionEnv S.cell (by intro y hy;simp at hy) (fun h₁ hns₁ hsb₁=>?_) S.kind)
 have I3:Inv X pins σ (upd H s.heap.objs.size (.lst [])) { s with heap:=s.heap.push { cls:=.type "list",data:=.seq ([]:List Value).toArray } }:=I.lnew (t':=s.toks) .nil (Nat.zero_le _)
 obtain ⟨W,⟨m0,w0⟩,turn⟩:=hw s.heap.objs.size I.fresh
 dsimp only at hns₁ hsb₁ ⊢
 generalize hs3:({ s with heap:=s.heap.push { cls:=.type "list",data:=.seq ([]:List Value).toArray } }:Shared)=s3 at I3
 have hh3:s3.heap=s.heap.push { cls:=.type "list",data:=.seq ([]:List Value).toArray }:=by rw [<- hs3]
 have hsz3:s3.heap.objs.size=s.heap.objs.size+1:=by rw [hh3,Heap.size_push]
 rw [<- hh3] at hns₁ hsb₁ ⊢
 have old:∀ b o,s3.heap.get? b=some o->h₁.get? b=some o:=fun b o e=>hsb₁.extBut b o (by have:=Heap.lt_size e;exact Nat.ne_of_lt this) (Heap.get?_push_of_some _ e)
 have old0:∀ b o,s.heap.get? b=some o->h₁.get? b=some o:=fun b o e=>old b o (by rw [hh3];exact Heap.get?_push_of_some _ e)
 have CneL:s3.heap.objs.size≠X.env.locals:=Nat.ne_of_gt I3.lt
 have CneC:∀ y c,X.env.cells.lookup y=some c->c≠s3.heap.objs.size:=fun y c e z=>by
  obtain ⟨v,q⟩:=I3.cell y c e
  have:=q.lt
  rw [z] at this
  exact absurd this (Nat.lt_irrefl _)
 have CneP:∀ p∈X.pn++pins,p.1≠s3.heap.objs.size:=fun p hp z=>by
  have:=Heap.lt_size (I3.pin p hp).1
  rw [z] at this
  exact absurd this (Nat.lt_irrefl _)
 have CfreeH:∀ b o,s3.heap.get? b=some o->b<s3.heap.objs.size:=fun b o e=>by have:=Heap.lt_size e;exact this
 have fpLt:∀ b∈fp,b<s3.heap.objs.size:=fun b hb=>by
  obtain ⟨o,e,_⟩:=T.obj 0 s.heap st b hb
  rw [hsz3]
  exact Nat.lt_succ_of_lt (Heap.lt_size e)
 have fpD:∀ b∈fp,b≠s.heap.objs.size:=fun b hb=>by
  obtain ⟨o,e,_⟩:=T.obj 0 s.heap st b hb
  exact Nat.ne_of_lt (Heap.lt_size e)
 have ok':(cxComp X N' scope cl s3.heap.objs.size s3 (upd H s.heap.objs.size (.lst [])) fp).Ok:=by
  refine ⟨I3.ok.mod,?_,I3.ok.glob,I3.ok.blt,Nat.le_refl _,fun y z c h1 h2=>I3.ok.inj y z c (clS y c h1) (clS z c h2),fun y hy=>?_,fun y c hf=>(by cases hf),I3.ok.hd,I3.ok.frames,.inl rfl,fun b hb=>⟨Nat.ne_of_lt (fpLt b hb),fun y c e=>(f2 b hb).2.2.2.2.1 y c (clS y c e)⟩,
   fun b o e=>I3.bs b o e,Nat.le_trans I3.ok.bsz I3.sz,fun b o e hb=>?_,fun b hb z=>?_,I3.stack,I3.stkFree⟩
  ·show (relabel scope X.env).kind = .function
   exact S.kind
  ·have hy':(relabel scope X.env).names.lookup y=some .cell∨(relabel scope X.env).names.lookup y=some .free:=hy
   rw [relabel_lookup] at hy'
   cases q:scope.names.lookup y with
   | none=>rw [q] at hy';rcases hy' with z | z <;> cases z
   | some k =>
    have hm:=lookup_mem q
    cases k with
    | free=>exact clH y q
    | cell=>exact absurd rfl (S.cell _ hm)
    | «local» => rw [q] at hy';rcases hy' with z | z <;> simp at z
    | globalExplicit=>rw [q] at hy';rcases hy' with z | z <;> simp at z
    | globalImplicit=>rw [q] at hy';rcases hy' with z | z <;> simp at z
  ·rcases (f2 b hb).2.2.2.1 with z | z
   ·exact I.ok.noex b o e z
   ·exact absurd (Nat.lt_of_lt_of_le (Heap.lt_size e) (Nat.le_trans I.ok.bsz z)) (Nat.lt_irrefl _)
  ·rcases List.mem_cons.mp (I3.stkSub b z) with q | q
   ·exact (f2 b hb).2.1 q
   ·exact (f2 b hb).2.2.1 q
 have fpOk':∀ {H':Hp},(∀ b∈fp,H' b=none)->∀ b∈fp,FpOk (cxComp X N' scope cl s3.heap.objs.size s3 (upd H s.heap.objs.size (.lst [])) fp) pins H' b:=fun hn b hb =>
  ⟨hn b hb,Nat.ne_of_lt (fpLt b hb),fun z=>by
   rcases List.mem_cons.mp (I3.stkSub b z) with q | q
   ·exact (f2 b hb).2.1 q
   ·exact (f2 b hb).2.2.1 q,.inl hb,fun y c e=>(f2 b hb).2.2.2.2.1 y c (clS y c e),(f2 b hb).2.2.2.2.2⟩
 have I4:Inv (cxComp X N' scope cl s3.heap.objs.size s3 (upd H s.heap.objs.size (.lst [])) fp) pins (none::σ) (upd H s.heap.objs.size (.lst [])) { s3 with heap:=h₁,toks:=s3.toks+([]:List (Str×Value)).length }:=by
  refine ⟨ok',rfl,I3.bare,Un.kept old,⟨_,hns₁,fun i y v e1 e2 vis=>?_⟩,fun y c e=>?_,?_,fun y c e=>I3.freeC y c (clS y c e),fun p hp=>?_,I3.hok.kept old,?_⟩
  ·cases i with
   | zero=>cases e2
   | succ i =>
    have e2':σ[i]?=some (some v):=by simpa using e2
    have hi:i<X.N.length:=by rw [<- I3.len];exact (List.getElem?_eq_some_iff.mp e2').1
    have vis':(relabel scope X.env).names.lookup y=some .local∨(relabel scope X.env).names.lookup y=some .cell∨(relabel scope X.env).names.lookup y=some .free:=vis
    have e1':N'[i+1]?=some y:=e1
    rcases S.sub i hi with q | q
    ·rw [e1'] at q
     have hy:X.N[i]?=some y:=q.symm
     have hmem:y∈N'.tail:=by
      rw [List.mem_iff_getElem?]
      exact ⟨i,by rw [List.getElem?_tail];exact e1'⟩
     have hfr:scope.names.lookup y=some .free:=by
      rw [relabel_lookup] at vis'
      cases q2:scope.names.lookup y with
      | none=>rw [q2] at vis';rcases vis' with z | z | z <;> cases z
      | some k =>
       cases k with
       | free=>rfl
       | cell=>exact absurd rfl (S.cell _ (lookup_mem q2))
       | «local» => exact absurd q2 (S.nol y hmem)
       | globalExplicit=>rw [q2] at vis';rcases vis' with z | z | z <;> simp at z
       | globalImplicit=>rw [q2] at vis';rcases vis' with z | z | z <;> simp at z
     have hok:=S.ok (y,.free) (lookup_mem hfr) rfl
     obtain ⟨m,hn,hl⟩:=I3.loc
     have visX:Vis X.env.scope y:=by
      rcases hok with z | z
      ·exact .inr (.inl z)
      ·exact .inr (.inr z)
     obtain ⟨u,r,l⟩:=hl i y v hy e2' visX
     refine ⟨u,r,.inr ⟨?_,?_⟩⟩
     ·show (relabel scope X.env).names.lookup y=some .cell∨(relabel scope X.env).names.lookup y=some .free
      rw [relabel_lookup,hfr,Option.map_some]
      by_cases hcnd:(NameKind.free==NameKind.free&&X.env.scope.kind == .function&&X.env.kindOf y==some .cell)=true
      ·left
       rw [if_pos hcnd]
      ·right
       rw [if_neg hcnd]
     ·rcases l with ⟨k,_⟩ | ⟨k,c,e,z⟩
      ·have k':X.env.scope.names.lookup y=some .local:=k
       have hok':X.env.scope.names.lookup y=some .cell∨X.env.scope.names.lookup y=some .free:=hok
       rw [k'] at hok'
       rcases hok' with z | z <;> cases z
      ·obtain ⟨c',e'⟩:=clH y hfr
       have e3:=clS y c' e'
       rw [e] at e3
       cases e3
       obtain ⟨o,ho,hd⟩:=z
       exact ⟨c,e',o,old c o ho,hd⟩
    ·rw [e1'] at q
     have q:scope.names.lookup y=none:=Option.some.inj q
     rw [relabel_lookup,q] at vis'
     rcases vis' with z | z | z <;> cases z
  ·obtain ⟨v,o,ho,hd⟩:=I3.cell y c (clS y c e)
   exact ⟨v,o,old c o ho,hd⟩
  ·show upd H s.heap.objs.size (.lst []) s3.heap.objs.size=none
   exact I3.hok.fresh (Nat.le_refl _)
  ·obtain ⟨e,n,ne,nf,d⟩:=I3.pin p hp
   refine ⟨old _ _ e,n,CneP p hp,fun z=>?_,d⟩
   rcases List.mem_cons.mp (I3.stkSub p.1 z) with q | q
   ·exact ne q
   ·exact nf q
  ·show (none::σ).length=N'.length
   rw [S.len,List.length_cons,I3.len]
 have st4:tn 0 h₁:=T.keep 0 s.heap h₁ st fun b _ o e=>old0 b o e
 have loop:∀ s₄:Shared,s₄ = { s3 with heap:=h₁,toks:=s3.toks+([]:List (Str×Value)).length } ->
   codeAny (model X.prog X.w) X.A (.compLoop (.ListComp elt [⟨.Name x px,iter,cds,0⟩] scope pos) 0 (.ref it) (.ref s.heap.objs.size) (compEnvC scope cl s3.heap.objs.size X.env)) (RR (.ref s.heap.objs.size) s3.heap.objs.size) s₄:=by
  rintro s₄ rfl
  refine codeAny_compLoop_ts (fun n s'=>∃ i v0 ys H',Inv (cxComp X N' scope cl s3.heap.objs.size s3 (upd H s.heap.objs.size (.lst [])) fp) pins (v0::σ) H' s'∧tn i s'.heap∧(∀ b∈fp,H' b=none)∧W i n ys H') ?_ m0
   ⟨0,none,[],_,I4,st4,fun b hb=>by rw [upd_ne (fpD b hb)];exact (f2 b hb).1,w0⟩
  rintro n s5 ⟨i,v0,ys,H5,I5,st5,fr5,w5⟩
  rcases turn i n ys H5 w5 with ⟨stop,qn⟩ | ⟨go,hz,N,hN,Nn,hNn,step⟩
  ·refine thn (T.done (cxComp X N' scope cl s3.heap.objs.size s3 (upd H s.heap.objs.size (.lst [])) fp) rfl rfl rfl hc i pins s5 (v0::σ) H5 (fun _ _=>False) I5 (fpOk' fr5) st5 stop) fun r s6 ⟨hr,I6⟩=>?_
   subst hr
   have hch:∀ b∈fp,(b∈X.ex∨X.s₀.heap.objs.size<=b)∧b≠X.env.locals∧(∀ x c,X.env.cells.lookup x=some c->c≠b)∧∀ p∈X.pn++pins,p.1≠b:=fun b hb =>
    ⟨(f2 b hb).2.2.2.1,(f2 b hb).2.1,(f2 b hb).2.2.2.2.1,(f2 b hb).2.2.2.2.2⟩
   have I7:Inv X pins σ H5 s6:=I3.call' (ch:=fp) I6.os I6.base I6.hok I6.bare hch
   obtain ⟨m,hm,_⟩:=I6.loc
   exact hRR s.heap.objs.size s3.heap.objs.size s6 H5 I7 ⟨m,hm⟩ CneL CneC I6.free (Nat.le_trans I3.sz (Nat.le_refl _)) CneP qn
  ·refine thn (T.item (cxComp X N' scope cl s3.heap.objs.size s3 (upd H s.heap.objs.size (.lst [])) fp) rfl rfl rfl hc i pins s5 (v0::σ) H5 (fun _ _=>False) I5 (fpOk' fr5) st5 go) fun r s6 ⟨u,hr,h6⟩=>?_
   subst hr
   refine thn h6 fun _ s7 ⟨y,H7,I7,r7,y7,st7,fr7⟩=>?_
   have I7':=I7.pinned (fpOk' fr7) (T.obj _ _ st7)
   refine wpAny_assign_Name (store_ok (i:=0) (v:=y) I7' S.nd S.hd (.inl (lookup_relabel_local S.var)) r7 (fun s8 I8=>?_) (.inr (lookup_relabel_local S.var)))
   have I8':Inv (cxComp X N' scope cl s3.heap.objs.size s3 (upd H s.heap.objs.size (.lst [])) fp) (pins++pinsAt fp s7.heap) (some y::σ) H7 s8:=I8
   refine thn (ht cl s3.heap.objs.size s3 (upd H s.heap.objs.size (.lst [])) fp _ s8 (some y::σ) H7 (fun b H''=>if b=true then te (some y::σ) H'' N else Nn H'') I8' (step y H7 y7)) fun okb s8 ⟨H8,I8,q8⟩=>?_
   cases okb with
   | false =>
    have q8':Nn H8:=by simpa using q8
    obtain ⟨m',hm,w9⟩:=hNn H8 q8'
    refine ⟨m',hm,i+1,some y,ys,_,I8.unpinned,T.keep _ _ _ st7 fun b hb o e=>(I8.pin (b,o) (List.mem_append_right _ (List.mem_append_right _ (mem_pinsAt hb e)))).1,fun b hb=>?_,w9⟩
    obtain ⟨o,e,d⟩:=T.obj _ _ st7 b hb
    exact (I8.pin (b,o) (List.mem_append_right _ (List.mem_append_right _ (mem_pinsAt hb e)))).2.1
   | true =>
    refine thn (he cl s3.heap.objs.size s3 (upd H s.heap.objs.size (.lst [])) fp _ s8 (some y::σ) H8 N I8 (by simpa using q8)) fun w s9 ⟨v,H9,I9,r9,q9⟩=>?_
    obtain ⟨hD9,m',hm,w9⟩:=hN v H9 q9
    refine thn (mt_append _ s9 (some y::σ) H9 (.ref s.heap.objs.size) [v] (.ref s.heap.objs.size) [w] (fun z H10=>z = .non∧H10=upd H9 s.heap.objs.size (.lst (ys++[v]))) I9 rfl (.cons r9 .nil) ⟨s.heap.objs.size,ys,v,rfl,rfl,hD9,hz,rfl,rfl⟩) fun _ s10 ⟨z,H10,I10,_,ez,e10⟩=>?_
    subst e10
    refine ⟨m',hm,i+1,some y,ys++[v],_,I10.unpinned,T.keep _ _ _ st7 fun b hb o e=>(I10.pin (b,o) (List.mem_append_right _ (List.mem_append_right _ (mem_pinsAt hb e)))).1,fun b hb=>?_,w9⟩
    obtain ⟨o,e,d⟩:=T.obj _ _ st7 b hb
    exact (I10.pin (b,o) (List.mem_append_right _ (List.mem_append_right _ (mem_pinsAt hb e)))).2.1
 exact codeAny_compStart_list (loop _ (by rw [<- hs3])) (T.self X.A 0 _ _ _ st4 (loop _ (by rw [<- hs3])))
theorem compAt.toF {te:TE}{σ:St}{Q:VK}{J:It}{H:Hp}(hw:compAt te σ Q J H):compAtF (fun _ H k=>k true H) te σ Q J H:=fun D hD=>by
 obtain ⟨W,h0,hW⟩:=hw D hD
 refine ⟨W,h0,fun i m ys H2 hw2=>?_⟩
 rcases hW i m ys H2 hw2 with g | ⟨g1,g2,N,g3,g4⟩
 ·exact .inl g
 ·exact .inr ⟨g1,g2,N,g3,fun _=>False,fun _ z=>z.elim,fun y H' hy=>iteT (g4 y H' hy)⟩
theorem pe_compx {at':St->VK->It->Hp->Prop}(S:CompSc X.N N' X.env.scope scope x)(hc:X.calm=true)(hi:PI X (.Name x px) iter wi)(ht:∀ cl C s H fp,PTL (cxComp X N' scope cl C s H fp) cds tc)(he:∀ cl C s H fp,PE (cxComp X N' scope cl C s H fp) elt te)(cv:∀ σ Q J H,at' σ Q J H->compAtF tc te σ Q J H)
  (hs:∀ x,foldedSetIterable iter X.env x=pure x:=by intro _;rfl):PE X (.ListComp elt [⟨.Name x px,iter,cds,0⟩] scope pos) (fun σ H Q=>wi σ H (at' σ Q)):=by
 intro pins s σ H Q I h
 rw [eval_ListComp]
 have hfree:∀ z∈scope.names,z.2 = .free->∃ c,X.env.cells.lookup z.1=some c:=fun z hz hk=>by
  rcases S.ok z hz hk with q | q
  ·exact I.ok.has z.1 (.inl q)
  ·exact I.ok.has z.1 (.inr q)
 refine wpAny_comprehension_free (use:=none) rfl hs (clos_eq hfree) S.kind S.names (thn (hi pins s σ H _ I h) fun xv s1 h1=>thn h1 fun itv s2 h2=>?_)
 obtain ⟨it,fp,tn,J,H2,e,I2,T,st2,f2,hw⟩:=h2
 subst e
 obtain ⟨cl,hcl,hrun⟩:=compx_core (tc:=tc) (cds:=cds) (elt:=elt) (iter:=iter) (pos:=pos) (px:=px) (E:=X.xe) (RR:=fun acc C=>compPost (model X.prog X.w) X.A X.xe none (EP X pins σ Q) acc C) S hc ht he I2 T st2 f2 (cv _ _ _ _ hw) (fun D C s' H' I' ⟨m,hm⟩ n1 n2 n3 n4 n5 q =>
  ⟨m,hm,fun h' hsb=>⟨.ref D,H',I'.turned (it:=C) (t':=s'.toks) (fun b o hb e=>(hsb.2 b hb).trans e) n3 n1 (.inr n4) n2 n5,rfl,q⟩⟩)
 have ecl:(pure (closOf X.env.cells scope.names []):Sem (List (Str×Addr)))=pure cl:=(clos_eq hfree).symm.trans hcl
 have ecl':closOf X.env.cells scope.names []=cl:=by
  injection ecl
 rw [ecl']
 exact hrun
theorem ps_setCompx {at':St->VK->It->Hp->Prop}{i:Nat}{y:Str}{py spos:Pos}(S:CompSc X.N N' X.env.scope scope x)(hc:X.calm=true)(hi:PI X (.Name x px) iter wi)(ht:∀ cl C s H fp,PTL (cxComp X N' scope cl C s H fp) cds tc)(he:∀ cl C s H fp,PE (cxComp X N' scope cl C s H fp) elt te)(cv:∀ σ Q J H,at' σ Q J H->compAtF tc te σ Q J H)
  (hN:X.N.Nodup) (hy:X.N[i]?=some y) (hyl:X.env.scope.names.lookup y=some .local)
  (hsw:swapsWith (.ListComp elt [⟨.Name x px,iter,cds,0⟩] scope pos) (some (.Name y py)) spos.line X.env=pure true:=by rfl)
  (hs:∀ x,foldedSetIterable iter X.env x=pure x:=by intro _;rfl):PS X (.Assign [.Name y py] (.ListComp elt [⟨.Name x px,iter,cds,0⟩] scope pos) spos) (tAsg (fun σ H Q=>wi σ H (at' σ Q)) (gName i)):=by
 intro pins s σ H D0 I h
 have hfree:∀ z∈scope.names,z.2 = .free->∃ c,X.env.cells.lookup z.1=some c:=fun z hz hk=>by
  rcases S.ok z hz hk with q | q
  ·exact I.ok.has z.1 (.inl q)
  ·exact I.ok.has z.1 (.inr q)
 rw [exec_Assign_Name_used _ _ _ _ hsw]
 refine wpAny_bind (wpAny_standAt (wpAny_bind ?_))
 show wpAny _ X.A (do let _ <- comprehension (.ListComp elt [⟨.Name x px,iter,cds,0⟩] scope pos) scope X.env _ (newList []) false (eval iter X.env) (some (assign (.Name y py) X.env))) _ _ s
 refine wpAny_bind (wpAny_mono (wpAny_comprehension_free (use:=some (assign (.Name y py) X.env)) (Q:=fun _ s'=>SP X pins D0 .next s') rfl hs (clos_eq hfree) S.kind S.names
  (thn (hi pins s σ H _ I h) fun xv s1 h1=>thn h1 fun itv s2 h2=>?_)) (fun _ s' hq=>wpAny_pure (wpAny_pure hq)) fun _ _ e=>e)
 obtain ⟨it,fp,tn,J,H2,e,I2,T,st2,f2,hw⟩:=h2
 subst e
 obtain ⟨cl,hcl,hrun⟩:=compx_core (tc:=tc) (cds:=cds) (elt:=elt) (iter:=iter) (pos:=pos) (px:=px) (E:=X.xe) (Q:=fun x H1=>gName i x σ H1 D0.nx) (RR:=fun acc C=>compPost (model X.prog X.w) X.A X.xe (some (assign (.Name y py) X.env)) (fun _ s'=>SP X pins D0 .next s') acc C) S hc ht he I2 T st2 f2 (cv _ _ _ _ hw) (fun D C s' H' I' ⟨m,hm⟩ n1 n2 n3 n4 n5 q=>by
  show wpAny _ X.A (assign (.Name y py) X.env (.ref D)) _ _ _
  refine wpAny_assign_Name (store_ok2 (i:=i) (v:=.ref D) I' hN hy (.inl hyl) rfl (fun s'' I'' ⟨a,hsa,hwa⟩=>?_) (.inr hyl))
  have haC:C≠a:=by
   rcases hwa with z | z
   ·rw [z];exact n1
   ·intro z2
    exact n2 y a z z2.symm
  refine ⟨m,hm.sameBut hsa haC,fun h' hsb=>?_⟩
  exact ⟨_,H',I''.turned (it:=C) (t':=s''.toks) (fun b o hb e=>(hsb.2 b hb).trans e) n3 n1 (.inr n4) n2 n5,q⟩)
 have ecl:(pure (closOf X.env.cells scope.names []):Sem (List (Str×Addr)))=pure cl:=(clos_eq hfree).symm.trans hcl
 have ecl':closOf X.env.cells scope.names []=cl:=by
  injection ecl
 rw [ecl']
 exact hrun
theorem pe_comp (S:CompSc X.N N' X.env.scope scope x)(hc:X.calm=true)(hi:PI X (.Name x px) iter wi)(he:∀ cl C s H fp,PE (cxComp X N' scope cl C s H fp) elt te)
  (hs:∀ x,foldedSetIterable iter X.env x=pure x:=by intro _;rfl):PE X (.ListComp elt [⟨.Name x px,iter,[],0⟩] scope pos) (tComp wi te) :=
 pe_compx (at':=fun σ Q=>compAt te σ Q) S hc hi (fun _ _ _ _ _=>ptl_nil) he (fun _ _ _ _ h=>h.toF) hs
theorem ps_setComp {i:Nat}{y:Str}{py spos:Pos}(S:CompSc X.N N' X.env.scope scope x)(hc:X.calm=true)(hi:PI X (.Name x px) iter wi)(he:∀ cl C s H fp,PE (cxComp X N' scope cl C s H fp) elt te)
  (hN:X.N.Nodup) (hy:X.N[i]?=some y) (hyl:X.env.scope.names.lookup y=some .local)
  (hsw:swapsWith (.ListComp elt [⟨.Name x px,iter,[],0⟩] scope pos) (some (.Name y py)) spos.line X.env=pure true:=by rfl)
  (hs:∀ x,foldedSetIterable iter X.env x=pure x:=by intro _;rfl):PS X (.Assign [.Name y py] (.ListComp elt [⟨.Name x px,iter,[],0⟩] scope pos) spos) (tAsg (tComp wi te) (gName i)) :=
 ps_setCompx (at':=fun σ Q=>compAt te σ Q) S hc hi (fun _ _ _ _ _=>ptl_nil) he (fun _ _ _ _ h=>h.toF) hN hy hyl hsw hs
end
theorem comp_range {lo:Int}{n:Nat}{te:TE}{σ:St}{H:Hp}{Q:VK}(f:Nat->V)(hn:n<=sizeLine)
  (he:∀ i H',i<n->Same H H'->∀ N:V->Hp->Prop,(∀ H'',Same H' H''->N (f i) H'')->te (some (.int (lo+i))::σ) H' N)
  (hq:∀ D H',H D=none->Same H H'->H' D=some (.lst ((List.range n).map f))->Q (.ref D) H') :
  compAt te σ Q (Itr lo n) H:=by
 intro D hD
 refine ⟨fun i m ys H2=>m=n-i∧i<=n∧ys=(List.range i).map f∧Same H H2∧H2 D=some (.lst ys),⟨n,rfl,Nat.zero_le _,rfl,fun b o e=>?_,upd_same⟩,?_⟩
 ·rw [upd_ne (ne_of_none e hD)]
  exact e
 ·rintro i m ys H2 ⟨rfl,hi,rfl,hs,hd⟩
  by_cases hlt:i<n
  ·refine .inr ⟨hlt,by rw [List.length_map,List.length_range];omega,fun v H'=>v=f i∧Same H2 H',fun v H' ⟨ev,hs'⟩=>⟨hs' D _ hd,n-(i+1),by omega,rfl,hlt,?_,fun b o e=>?_,upd_same⟩,fun y H' hy=>?_⟩
   ·rw [ev,List.range_succ,List.map_append]
    rfl
   ·rw [upd_ne (ne_of_none e hD)]
    exact hs' b o (hs b o e)
   ·obtain ⟨e1,e2⟩:=hy
    subst e1 e2
    exact he i _ hlt hs _ fun H'' h''=>⟨rfl,h''⟩
  ·have e:i=n:=by omega
   subst e
   exact .inl ⟨Nat.le_refl _,hq D H2 hD hs hd⟩
end L2
namespace L2
open PySem PySem.Spec PyProof.Rows
set_option genInjectivity false in
structure Cal (P:Program)(w:World)(K:PySem.W.Frag)(mg:Str->Option Value)(base:Heap)(CX:CXT)(x:Str)(k:Nat)(ps:List Str)(sp:Sp):Prop where
 ex:∃ (f:Addr) (fd:FuncData),FnOk P w K mg base CX k f fd ps sp∧mg x=some (.ref f)∧PySem.W.keepIn K (.ref f)=true∧Binds K fd ps []
section
variable {X:Cx}
theorem pe_cal {CX:CXT}{x:Str}{j k:Nat}{ps:List Str}{sp:Sp}{E:XK}{e:Expr}{es:List Expr}{t:TA}{p pos:Pos}(c:Cal X.prog X.w X.K X.mg X.base CX x j ps sp)(hr:Room k X.A)(hx:Passes CX X E)(ha:PA X (e::es) t)
  (hjk:j<=k:=by decide) (hg:Gl X x:=by rfl) (hdb:(x==("__debug__" : Str))=false:=by decide) (he:starEach (e::es) X.env=(false,eval e X.env)::starEach es X.env:=by rfl) (hpl:(backTo pos (starEach es X.env)).any (·.1)=false:=by rfl) :
  PE X (.Call (.Name x p) (e::es) [] pos) (tCall sp [] E t):=by
 obtain ⟨f,fd,F,hm,hk,hb⟩:=c.ex
 exact pe_call F (hr.mono hjk) hg hm hk hb .nil hx ha hdb he hpl
theorem pe_strT (l:List Nat){x:Str}{j pos}(h:x=tx l):PE X (.Constant (.str x) j pos) (tC (T l)):=by
 subst h
 exact pe_str
theorem call_len_T:CallR X (.builtin "len") (fun xs H Q=>∃ (l:List Nat),xs=[T l]∧l.length<=sizeLine∧Q (.int (l.length:Nat)) H):=by
 intro pins s σ H xs us Q I r h
 obtain ⟨l,e,hz,q⟩:=h
 exact call_len_str pins s σ H xs us Q I r ⟨tx l,e,by rw [tx_len];exact hz,by rw [tx_len];exact q⟩
theorem ix_T:IxR X (fun x y H Q=>∃ (l:List Nat),x=T l∧∃ (i:Int),y = .int i∧l.length<=sizeLine∧∃ c,atI l i=some c∧Q (T [c]) H):=by
 intro value slice pins s σ H x y v u Q I rx ry h hs
 obtain ⟨l,e1,i,e2,hz,c,hc,q⟩:=h
 exact ix_str value slice pins s σ H x y v u Q I rx ry ⟨tx l,i,c,e1,e2,by rw [tx_len];exact hz,by rw [tx_cps];exact hc,q⟩ hs
theorem call_isinst:CallR X (.builtin "isinstance") (fun xs H Q=>∃ (x:V) (c:String) (t:Value) (b:Bool),xs=[x,.ty c]∧TyOf X.K H x t∧PySem.W.kitOne X.K t (.type c)=some b∧Q (.bl b) H):=by
 intro pins s σ H xs us Q I r h
 obtain ⟨x,c,t,b,rfl,ty,e,q⟩:=h
 obtain ⟨u,w',rfl,ru,rw'⟩:=vals2 r
 cases (show w'=Value.type c from rw')
 exact isinst_ok I ru ty e fun tk=>⟨.bl b,H,I.tok tk,rfl,q⟩
theorem kit_same {K:PySem.W.Frag}(T:String):PySem.W.kitOne K (.type T) (.type T)=some true:=by
 unfold PySem.W.kitOne
 rw [if_pos (by simp)]
theorem kit_int_bool {K:PySem.W.Frag}:PySem.W.kitOne K (.type "int") (.type "bool")=some false:=by
 unfold PySem.W.kitOne
 rw [if_neg (by decide)]
 rfl
theorem op_catL:OpR X (binaryOp .Add) (fun x y H Q=>∃ (l b:Addr) (xs zs:List V),x = .ref l∧y = .ref b∧SqL X.K H l xs∧SqL X.K H b zs∧xs.length+zs.length<=sizeLine∧∀ p,H p=none->Q (.ref p) (upd H p (.lst (xs++zs)))):=by
 intro pins s σ H x y v u Q I rx ry h
 obtain ⟨l,b,xs,zs,rfl,rfl,hH,hB,hz,q⟩:=h
 cases rx
 cases ry
 obtain ⟨its,r,⟨⟨cls,dd,data,sl⟩,n,ho,hc,hdd,hd⟩,_⟩:=I.list hH
 obtain ⟨its2,r2,⟨⟨cls2,dd2,data2,sl2⟩,n2,ho2,hc2,hdd2,hd2⟩,_⟩:=I.list hB
 simp only at hc hd hc2 hd2
 subst hc hd hc2 hd2
 have e:its.toArray++its2.toArray=(its++its2).toArray:=by simp
 refine concat_meets ⟨_,ho,rfl⟩ ⟨_,ho2,rfl⟩ noFill_list_add seq_list_add PySem.F.slot_list_add PySem.F.entry_list_add (PySem.F.args_list_add_2 _ _) (list_addW l b its.toArray its2.toArray n n2 dd dd2 sl sl2 (by rw [List.size_toArray,List.size_toArray,<- r.length,<- r2.length];exact hz)) ⟨ho,ho2,?_⟩
 rw [e]
 exact ⟨.ref _,_,I.lnew (t':=s.toks) (r.append r2) (by rw [List.length_append];exact hz),rfl,q _ I.fresh⟩
theorem eqU_T {ls:List (List Nat)}{us:List Value}{a:List Nat}(r:Vals (ls.map T) us){i:Nat}{l:List Nat}{u:Value}(h:ls[i]?=some l)(hu:us[i]?=some u):eqU (T a) u=decide (l=a):=by
 obtain ⟨u',h1,h2⟩:=r.get (i:=i) (x:=T l) (by rw [List.getElem?_map,h];rfl)
 rw [hu] at h1
 cases h1
 rw [eqU_of h2 rfl]
 show (tx l==tx a)=decide (l=a)
 rw [Bool.eq_iff_iff,beq_iff_eq,decide_eq_true_iff]
 exact ⟨tx_inj,fun h=>by rw [h]⟩
theorem all_flat (ls:List (List Nat)):(ls.map T).all flatV=true:=by
 rw [List.all_map,List.all_eq_true]
 intro l _
 rfl
theorem mt_index:MtR X "list.index" (fun x xs H Q=>∃ (p:Addr) (ls:List (List Nat)) (a:List Nat) (j:Nat),x = .ref p∧xs=[T a]∧SqL X.K H p (ls.map T)∧ls[j]?=some a∧(∀ i,i<j->ls[i]?≠some a)∧Q (.int (j:Nat)) H):=by
 intro pins s σ H x xs v us Q I rx rs h
 obtain ⟨p,ls,a,j,rfl,rfl,hq,hj,hno,q⟩:=h
 cases rx
 obtain ⟨u,rfl,ru⟩:=vals1 rs
 obtain ⟨its,r,⟨⟨cls,dd,data,sl⟩,n,ho,hc,hdd,hd⟩,hz⟩:=I.list hq
 simp only at hc hd
 subst hc hd
 have hlen:ls.length=its.length:=by have:=r.length;rw [List.length_map] at this;exact this
 have hjl:j<ls.length:=(List.getElem?_eq_some_iff.mp hj).1
 have hs:sizeLine=16777216:=sizeLine_eq
 rw [List.length_map] at hz
 refine call_meets PySem.F.slot_list_index ⟨_,ho,rfl⟩ PySem.F.entry_list_index (PySem.F.args_list_index_2 _ _) (SeqAt.list_indexAt p its.toArray n dd sl u (eqU (T a)) j (by rw [List.size_toArray];omega) (by omega) ?_ ?_)
  ⟨ho,fun y hy=>mem_eqAt ru rfl r (all_flat ls) y (by simpa using hy),⟨.int (j:Nat),H,I.tok _,⟨_,rfl⟩,q⟩⟩
 ·have hu:its[j]?=some its.toArray[j]:=by simp
  rw [eqU_T r hj hu]
  exact decide_eq_true rfl
 ·intro m hm hmj
  rw [List.size_toArray] at hm
  have hu:its[m]?=some its.toArray[m]:=by simp
  have hl:ls[m]?=some ls[m]:=List.getElem?_eq_getElem (by omega)
  rw [eqU_T r hl hu]
  refine decide_eq_false fun e=>hno m hmj ?_
  rw [hl,e]
theorem eqAt_T {ls ms:List (List Nat)}{us ws:List Value}(r:Vals (ls.map T) us)(r':Vals (ms.map T) ws){A:Around}{s:Shared}{j:Nat}{u w:Value}(hu:us[j]?=some u)(hw:ws[j]?=some w):SeqAt.EqAt A s u w (decide (ls[j]?=ms[j]?)):=by
 have h1:j<ls.length:=by have:=r.length;rw [List.length_map] at this;rw [this];exact (List.getElem?_eq_some_iff.mp hu).1
 have h2:j<ms.length:=by have:=r'.length;rw [List.length_map] at this;rw [this];exact (List.getElem?_eq_some_iff.mp hw).1
 obtain ⟨u',e1,q1⟩:=r.get (i:=j) (x:=T ls[j]) (by rw [List.getElem?_map,List.getElem?_eq_getElem h1];rfl)
 obtain ⟨w',e2,q2⟩:=r'.get (i:=j) (x:=T ms[j]) (by rw [List.getElem?_map,List.getElem?_eq_getElem h2];rfl)
 rw [hu] at e1
 cases e1
 rw [hw] at e2
 cases e2
 have e:=eqAt_V (A:=A) (s:=s) q1 q2 rfl rfl
 have ee:eqV (T ls[j]) (T ms[j])=decide (ls[j]?=ms[j]?):=by
  show (tx ls[j]==tx ms[j])=_
  rw [Bool.eq_iff_iff,beq_iff_eq,decide_eq_true_iff,List.getElem?_eq_getElem h1,List.getElem?_eq_getElem h2]
  exact ⟨fun h=>by rw [tx_inj h],fun h=>by rw [Option.some.inj h]⟩
 rw [ee] at e
 exact e
theorem all_range_eq {ls ms:List (List Nat)}(h:ls.length=ms.length):(List.range ls.length).all (fun j=>decide (ls[j]?=ms[j]?))=decide (ls=ms):=by
 rw [Bool.eq_iff_iff,List.all_eq_true,decide_eq_true_iff]
 constructor
 ·intro g
  apply List.ext_getElem?
  intro i
  by_cases hi:i<ls.length
  ·exact of_decide_eq_true (g i (List.mem_range.mpr hi))
  ·rw [List.getElem?_eq_none (by omega),List.getElem?_eq_none (by omega)]
 ·intro g j _
  rw [g]
  exact decide_eq_true rfl
theorem op_eq_LT (hu:X.A.units<cLine):OpR X (compareOp .Eq) (fun x y H Q=>∃ (p b:Addr) (ls ms:List (List Nat)),x = .ref p∧y = .ref b∧SqL X.K H p (ls.map T)∧SqL X.K H b (ms.map T)∧Q (.bl (decide (ls=ms))) H):=by
 intro pins s σ H x y v u Q I rx ry h
 obtain ⟨p,b,ls,ms,rfl,rfl,h1,h2,q⟩:=h
 cases rx
 cases ry
 obtain ⟨its,r,pl,_⟩:=I.list h1
 obtain ⟨its2,r2,pl2,_⟩:=I.list h2
 have l1:=r.length
 have l2:=r2.length
 rw [List.length_map] at l1 l2
 by_cases hl:ls.length=ms.length
 ·refine SeqAt.eq_listAt (e:=fun j=>decide (ls[j]?=ms[j]?)) pl.isList pl2.isList (by rw [List.size_toArray,List.size_toArray];omega) hu (fun j g1 g2=>eqAt_T r r2 (by simp) (by simp)) ?_
  rw [List.size_toArray,<- l1,all_range_eq hl]
  exact ⟨.bl _,H,I,rfl,q⟩
 ·refine SeqAt.eq_list_lengthsAt pl.isList pl2.isList (by rw [List.size_toArray,List.size_toArray,bne_iff_ne];omega) hu ?_
  have e:decide (ls=ms)=false:=decide_eq_false fun z=>hl (by rw [z])
  rw [e] at q
  exact ⟨.bl _,H,I,rfl,q⟩
end
end L2
namespace L2
open PySem PySem.Spec PyProof.Rows
set_option genInjectivity false in
structure Fly (P:Program)(w:World)(outer:List Env)(H:Hp)(s:Shared)(a:Addr)(cls:Value)(H':Hp)(s':Shared):Prop where
 os:s'.os=s.os
 bare:AllBare s'.gens
 ex:∃ (B:Heap) (t:Addr),Heap.FlyingW B outer a cls (.ref t) s'.heap∧HOk P w H' B∧(∀ b o,s.heap.get? b=some o->H b=none->b∉frs outer->B.get? b=some o) ∧
  ∀ b o,s.heap.get? b=some o->b∉frs outer->∃ o',B.get? b=some o'
 slot:∀ b o,s.heap.get? b=some o->H b=none->b∈frs outer->∃ sl,s'.heap.get? b=some { o with slots:=sl }
 free:∀ b o,s.heap.get? b=some o->H b=none->H' b=none
 tups:∀ b xs,H b=some (.tup xs)->H' b=some (.tup xs)
 frzs:∀ b o u,H b=some (.frz o u)->H' b=some (.frz o u)
 tbls:∀ b ps,H b=some (.tbl ps)->∃ more,H' b=some (.tbl (ps++more))
def CX1 (P:Program)(w:World):CXT:=fun outer H s E e s'=>∃ a cls H',e = .ref a∧Fly P w outer H s a cls H' s'∧E cls none H'
section
variable {X:Cx}{pins:List (Addr×Obj)}{σ:St}{H H':Hp}{s s':Shared}{a:Addr}{cls:Value}{E:Value->Shared->Prop}
set_option genInjectivity false in
structure Own (X:Cx):Prop where
 stk:X.stack=X.env::X.outer
 fr:X.env.frame=some X.env.locals
 ex:X.ex=[]
theorem Own.frs (O:Own X){b:Addr}:b∈frs X.stack↔b=X.env.locals∨b∈frs X.outer:=by
 unfold L2.frs
 rw [O.stk,List.filterMap_cons,O.fr]
 exact List.mem_cons
theorem Inv.oldNe (I:Inv X pins σ H s){b:Addr}{o:Obj}(e:X.s₀.heap.get? b=some o):b≠X.env.locals:=Nat.ne_of_lt (Nat.lt_of_lt_of_le (Heap.lt_size e) I.ok.above)
theorem Inv.hidHok (I:Inv X pins σ H s):HOk X.prog X.w H (PySem.W.hideAll s.heap (L2.frs X.stack)):=fun b u e =>
 (I.hok b u e).stay (fun c v hc q=>PySem.W.hideAll_get _ q fun hm=>by
  have n:=I.stkFree c hm
  rcases hc with z | z
  ·rw [z,e] at n
   cases n
  ·rw [z] at n
   cases n) (fun _ q=>q) fun _ _ q=>q
theorem Fly.raised {args:List Value}{h:Heap}(I:Inv X pins σ H s)(O:Own X)(hx:Heap.MadeExcOf s.heap h a cls args) :
  wpAny (model X.prog X.w) X.A (leaving X.env (.ref a)) (fun _ s''=>Fly X.prog X.w X.outer X.H₀ X.s₀ a cls H s'') E { s with heap:=h }:=by
 have hst:=I.stack
 have hin:∀ env∈X.stack,∀ b,env.frame=some b->b∈L2.frs X.stack:=fun env he b hb=>List.mem_filterMap.mpr ⟨env,he,hb⟩
 have hl:=PySem.W.funFrames_hide hst hin
 rw [O.stk] at hl
 have hfr:=I.ok.frames
 rw [O.stk] at hfr
 have noEx:∀ b,b∉X.ex:=fun b z=>by
  rw [O.ex] at z
  cases z
 refine wpAny_leaves_madeW (s:={ s with heap:=h }) hfr O.fr (fun b o q=>PySem.W.of_hideAll _ q) hl hx fun h' t x1 x2 x3 x4=>?_
 have notIn:∀ b o,X.s₀.heap.get? b=some o->b∉L2.frs X.outer->b∉L2.frs (X.env::X.outer):=fun b o e nb z=>by
  rw [<- O.stk] at z
  rcases O.frs.mp z with q | q
  ·exact I.oldNe e q
  ·exact nb q
 have hokB:=I.hidHok
 rw [O.stk] at hokB
 refine ⟨I.os,I.bare,⟨_,t,x1,hokB,fun b o e n nb=>?_,fun b o e nb=>?_⟩,fun b o e n hb=>?_,fun b o e n=>I.base.free b o e n (noEx b),I.base.tups,I.base.frzs,I.base.tbls⟩
 ·exact PySem.W.hideAll_get _ (I.base.keep b o e n nb (noEx b)) (notIn b o e nb)
 ·obtain ⟨o',e'⟩:=I.base.there b o e (noEx b)
  exact ⟨o',PySem.W.hideAll_get _ e' (notIn b o e nb)⟩
 ·obtain ⟨sl,e1⟩:=I.base.slot b o e n hb (noEx b)
  obtain ⟨_,o2,e2,hd⟩:=I.funs.mem hb
  rw [e1] at e2
  cases e2
  obtain ⟨sl2,e3⟩:=x4 b _ (hx.keeps b _ e1) hd
  exact ⟨sl2,e3⟩
theorem Fly.on (I:Inv X pins σ H s)(O:Own X)(Y:Fly X.prog X.w X.stack H s a cls H' s') :
  wpAny (model X.prog X.w) X.A (leaving X.env (.ref a)) (fun _ s''=>Fly X.prog X.w X.outer X.H₀ X.s₀ a cls H' s'') E s':=by
 obtain ⟨B,t,hfl,hokB,kp,th⟩:=Y.ex
 have hfr:=I.ok.frames
 rw [O.stk] at hfr hfl
 have noEx:∀ b,b∉X.ex:=fun b z=>by
  rw [O.ex] at z
  cases z
 have notIn:∀ b o,X.s₀.heap.get? b=some o->b∉L2.frs X.outer->b∉L2.frs X.stack:=fun b o e nb z=>by
  rcases O.frs.mp z with q | q
  ·exact I.oldNe e q
  ·exact nb q
 refine wpAny_leaves_onW hfr O.fr hfl fun h' x1 x2=>?_
 refine ⟨Y.os.trans I.os,Y.bare,⟨B,t,x1,hokB,fun b o e n nb=>kp b o (I.base.keep b o e n nb (noEx b)) (I.base.free b o e n (noEx b)) (notIn b o e nb),fun b o e nb=>?_⟩,fun b o e n hb=>?_,fun b o e n=>?_,
  fun b xs q=>Y.tups b xs (I.base.tups b xs q),fun b o u q=>Y.frzs b o u (I.base.frzs b o u q),fun b ps q=>?_⟩
 ·obtain ⟨o',e'⟩:=I.base.there b o e (noEx b)
  exact th b o' e' (notIn b o e nb)
 ·obtain ⟨sl,e1⟩:=I.base.slot b o e n hb (noEx b)
  obtain ⟨_,o2,e2,hd⟩:=I.funs.mem hb
  rw [e1] at e2
  cases e2
  obtain ⟨sl2,e3⟩:=Y.slot b _ e1 (I.base.free b o e n (noEx b)) (O.frs.mpr (.inr hb))
  obtain ⟨sl3,e4⟩:=x2 b _ e3 hd
  exact ⟨sl3,e4⟩
 ·obtain ⟨o',e'⟩:=I.base.there b o e (noEx b)
  exact Y.free b o' e' (I.base.free b o e n (noEx b))
 ·obtain ⟨m1,e1⟩:=I.base.tbls b ps q
  obtain ⟨m2,e2⟩:=Y.tbls b _ e1
  exact ⟨m1++m2,by rw [e2,Array.append_assoc]⟩
end
abbrev bmVE:List Value:=[.type "ValueError",.type "Exception",.type "BaseException",.type "object"]
set_option genInjectivity false in
structure Exc (K:PySem.W.Frag)(mg:Str->Option Value)(x:Str)(C:Addr):Prop where
 mg:mg x=some (.ref C)
 is:PySem.W.excIn K C bmVE "ValueError.__new__" = true
theorem Exc.own {K:PySem.W.Frag}{mg:Str->Option Value}{x:Str}{C:Addr}{h:Heap}(c:Exc K mg x C)(X:K.In h):OwnCls x C bmVE "ValueError.__new__" mg h:=by
 refine ⟨c.mg,?_⟩
 have q:=c.is
 unfold PySem.W.excIn at q
 split at q
 ·rename_i dd cd sl ho
  split at q
  ·rename_i C' bm k0 k1 k2 k3 n k5 hm hs
   simp only [beq_iff_eq,Bool.not_eq_true',Bool.and_eq_true] at q
   obtain ⟨⟨⟨⟨⟨g1,g2⟩,g3⟩,g4⟩,g5⟩,g6⟩:=q
   subst g1 g2
   obtain ⟨nm,bs,mro,ns,qn,hd,sn,sub,ab,col,del⟩:=cd
   have hsl:sl = #[k0,k1,k2,k3,some (.builtin "ValueError.__new__"),k5]:=by
    cases sl with
    | mk l =>
     have hs':l=_:=hs
     rw [hs']
   have hm':mro=_:=hm
   have g3':del=false:=g3
   subst hsl hm' g3'
   refine ⟨bm,ns,nm,qn,bs,hd,sn,sub,ab,col,dd,k0,k1,k2,k3,k5,h.nsMap ns,X _ _ ho,?_,?_,?_⟩
   ·exact .of_isNs (PySem.W.isNs_of_in X g5)
   ·exact PySem.W.nsMap_none_of_in X g5 g6
   ·exact PySem.W.tail_of_in X g4
  ·cases q
 ·cases q
def tRaise (E:Value->Hp->Prop)(C:Addr)(t:TA):TS:=fun _ σ H=>t σ H fun vs H1=>vs.length<=sizeLine∧E (.ref C) H1
theorem ps_raise {x:Str}{C:Addr}{e₀:Expr}{rest:List Expr}{np cpos pos:Pos}{t:TA}{E:Value->Hp->Prop}(c:Exc X.K X.mg x C)(hc:X.calm=true)
  (hE:∀ (pins:List (Addr×Obj)) (σ:St) (H:Hp) (s:Shared) (h:Heap) (a:Addr) (args:List Value),Inv X pins σ H s->Heap.MadeExcOf s.heap h a (.ref C) args->E (.ref C) H->X.xe (.ref a) { s with heap:=h })
  (ha:PA X (e₀::rest) t) (hg:Gl X x:=by rfl) (hd:(x==("__debug__" : Str))=false:=by decide)
  (he:starEach (e₀::rest) X.env=(false,eval e₀ X.env)::starEach rest X.env:=by rfl) (hpl:(backTo cpos (starEach rest X.env)).any (·.1)=false:=by rfl) :
  PS X (.Raise (some (.Call (.Name x np) (e₀::rest) [] cpos)) none pos) (tRaise E C t):=by
 intro pins s σ H D I h
 have O:=c.own I.mod.kin
 obtain ⟨tl,N,nm,q,bs,hdct,sn,sub,ab,col,dd,k0,k1,k2,k3,k5,mN,hC,hN,hni,T⟩:=O.obj
 refine wpAny_Raise_call_subT (C:=C) (nm:=nm) (q:=q) (N:=N) (bs:=bs) (bm:=tl) (hdct:=hdct) (sn:=sn) (sub:=sub) (ab:=ab) (col:=col) (dd:=dd) (k0:=k0) (k1:=k1) (k2:=k2) (k3:=k3) (k5:=k5) PySem.F.excBase_ValueError (mN:=mN)
  (T.hasType (by decide +kernel)) (I.ok.hd hc) (by rw [he];show (false||(backTo cpos (starEach rest X.env)).any (·.1))=false;rw [hpl];rfl) hni (ld_glob I hg c.mg ⟨rfl,?_⟩ hd)
 have hA:=ha cpos pins s σ H _ I h
 rw [he] at hA ⊢
 refine Calls.evalArgs_plain (thn hA fun us s2 ⟨vs,H2,I2,r2,hz,q2⟩=>?_)
 exact ⟨rfl,by rw [<- r2.length];exact hz,I2.bk _ _ hC,hN.keeps I2.bk,T.keeps I2.bk,fun h' e hx=>hE pins σ H2 s2 h' e us I2 hx q2⟩
section
variable {P:Program}{w:World}{K:PySem.W.Frag}{mg:Str->Option Value}{base:Heap}{N:List Str}{qual:Str}{scope:Scope}{f:Addr}{cdv:Value}{A:Around}{outer:List Env}{s:Shared}{H:Hp}{E:XK}
theorem ownX {CX:CXT}:Own (cxOf CX P w K mg base N qual scope f cdv A outer s H E):=⟨rfl,rfl,rfl⟩
theorem passX:Passes (CX1 P w) (cxOf (CX1 P w) P w K mg base N qual scope f cdv A outer s H E) E:=fun pins σ H1 s1 e s' I h=>by
 obtain ⟨a,cls,H',rfl,Y,q⟩:=h
 exact thn (Fly.on I ownX Y) fun _ s'' Z=>⟨a,cls,H',rfl,Z,q⟩
theorem raiseX {C:Addr}{pins:List (Addr×Obj)}{σ:St}{H1:Hp}{s1:Shared}{h:Heap}{a:Addr}{args:List Value}(I:Inv (cxOf (CX1 P w) P w K mg base N qual scope f cdv A outer s H E) pins σ H1 s1)(hx:Heap.MadeExcOf s1.heap h a (.ref C) args)(q:E (.ref C) none H1) :
 (cxOf (CX1 P w) P w K mg base N qual scope f cdv A outer s H E).xe (.ref a) { s1 with heap:=h }:=thn (Fly.raised I ownX hx) fun _ s'' Z=>⟨a,.ref C,H1,rfl,Z,q⟩
theorem pass1 {X:Cx}:Passes (CX1 P w) X E0:=fun _ _ _ _ _ _ _ h=>by
 obtain ⟨_,_,_,_,_,q⟩:=h
 exact q.elim
theorem Fun.okX {x qual:Str}{st:Stmt}{f:Addr}{fd:FuncData}{N ps:List Str}{k:Nat}{sp:Sp}(F:Fun K x qual st f fd)(S:FnScope N ps (defScope st))(len:∀ vs H Q E,sp vs H Q E->vs.length=ps.length)
  (hbody:∀ (cdv:Value) (A:Around) (outer:List Env) (s:Shared) (H:Hp) (vs:List V) (Q:VK) (E:XK),Room k (A.deeper (envOfC qual (defScope st) s.heap.objs.size f cdv))->sp vs H Q E ->
   ∃ t,PSs (cxOf (CX1 P w) P w K mg base N qual (defScope st) f cdv A outer s H E) (defBody st) t∧t { nx:=fun _ H'=>Q .non H',rt:=Q } (start N vs) H):FnOk P w K mg base (CX1 P w) (k+1) f fd ps sp:=by
 obtain ⟨oc,od,kV,doc,pm,an,cdv,ct,osl,rfl,lk,hcd⟩:=F.ex
 exact fn_of lk hcd S len fun A outer s H vs Q E hr hsp=>hbody cdv A outer s H vs Q E hr hsp
end
end L2
namespace L2
open PySem PySem.Spec PyProof.Rows
def XP (X:Cx)(pins:List (Addr×Obj))(R:St->Value->Hp->Prop)(e:Value)(s':Shared):Prop :=
 ∃ a cls σ' H s1 H',e = .ref a∧Inv X pins σ' H s1∧Fly X.prog X.w X.stack H s1 a cls H' s'∧R σ' cls H'
abbrev TTy:=Ends->(St->Value->Hp->Prop)->St->Hp->Prop
def PTy (X:Cx)(st:List Stmt)(t:TTy):Prop :=
 ∀ (pins:List (Addr×Obj)) (s:Shared) (σ:St) (H:Hp) (D:Ends) (R:St->Value->Hp->Prop),Inv X pins σ H s->t D R σ H->wpAny (model X.prog X.w) X.A (execs st X.env) (SP X pins D) (XP X pins R) s
section
variable {X:Cx}
abbrev TH:=Ends->St->Value->Hp->Prop
def PH (X:Cx)(hs:List ExceptHandler)(t:TH):Prop :=
 ∀ (pins:List (Addr×Obj)) (σ:St) (H:Hp) (s:Shared) (a:Addr) (cls:Value) (H':Hp) (s':Shared) (D:Ends),Inv X pins σ H s->Fly X.prog X.w X.stack H s a cls H' s'->t D σ cls H' ->
  wpAny (model X.prog X.w) X.A (handleBy (.ref a) X.env hs) (SP X pins D) X.xe s'
end
end L2
namespace L2
open PySem PySem.Spec PyProof.Rows
namespace RV
section
variable {prog:Program}{w:World}{A:Around}{E:Value->Shared->Prop}{s:Shared}
end
end RV
section
variable {X:Cx}
theorem rising_pw:∀ (x:List Nat) (ls:List (List Nat)),risingS (tx x) (ls.map tx)=true->(∀ y∈ls,¬ y<x)∧ls.Pairwise (fun a b=>¬ b<a)
 | x,[],_=>⟨fun _ h=>(by cases h),.nil⟩
 | x,y::ls,h=>by
  have h':(!ltCps (tx y).cps.toList (tx x).cps.toList&&risingS (tx y) (ls.map tx))=true:=h
  rw [Bool.and_eq_true,tx_cps,tx_cps,ltCps_eq] at h'
  obtain ⟨a,b⟩:=rising_pw y ls h'.2
  have h1:¬ y<x:=by simpa using h'.1
  refine ⟨fun z hz=>?_,List.pairwise_cons.mpr ⟨a,b⟩⟩
  rcases List.mem_cons.mp hz with rfl | hz
  ·exact h1
  ·exact Wd.lele h1 (a z hz)
theorem sorted_pw:∀ (ls:List (List Nat)),sortedS (ls.map tx)=true->ls.Pairwise (fun a b=>¬ b<a)
 | [],_=>.nil
 | x::ls,h=>List.pairwise_cons.mpr (rising_pw x ls h)
theorem strs_back:∀ {us:List Value} {ss:List Str},StrsAre us ss->Vals ((ss.map fun x=>x.cps.toList).map T) us
 | _,_,.nil=>.nil
 | _,_,.cons x t h=>.cons ⟨t,by show Value.str x t=Value.str (tx x.cps.toList) t;rw [tx_eta]⟩ (strs_back h)
theorem call_sortedT:CallR X (.builtin "sorted") (fun xs H Q=>∃ (p:Addr) (ls:List (List Nat)),xs=[.ref p]∧SqL X.K H p (ls.map T)∧ls.length<64∧∀ (ms:List (List Nat)) (D:Addr),H D=none->ms.Perm ls->ms.Pairwise (fun a b=>¬ b<a)->Q (.ref D) (upd H D (.lst (ms.map T)))):=by
 intro pins s σ H xs us Q I r h
 obtain ⟨p,ls,rfl,hq,h64,q⟩:=h
 obtain ⟨u,rfl,ru⟩:=vals1 r
 cases ru
 obtain ⟨its,rv,pl,hz⟩:=I.list hq
 have hlen:=rv.length
 rw [List.length_map] at hlen
 refine sorted_strs pl.isList (strsAre_T rv) (by omega) fun out ss' a1 a2 a3=>?_
 obtain ⟨e,he⟩:=sortedAll_at s.heap its out
 have em:(ss'.map fun x=>x.cps.toList).map tx=ss':=by
  rw [List.map_map]
  conv=>rhs;rw [<- List.map_id ss']
  exact List.map_congr_left fun x _=>tx_eta x
 have hp:(ss'.map fun x=>x.cps.toList).Perm ls:=by
  have z:=a2.map fun x=>x.cps.toList
  have e2:(ls.map tx).map (fun x=>x.cps.toList)=ls:=by
   rw [List.map_map]
   conv=>rhs;rw [<- List.map_id ls]
   exact List.map_congr_left fun x _=>tx_cps x
  rw [e2] at z
  exact z
 have hpl:=hp.length_eq
 refine ⟨.ref _,_,I.laid (t':=s.toks) (fun _ _=>sortedAll_old) (Nat.le_succ _) (o:=.lst ((ss'.map fun x=>x.cps.toList).map T)) ⟨by rw [List.length_map,hpl];rw [List.length_map] at hz;exact hz,out.toList,e,strs_back a1,by simpa using he⟩,rfl,q _ _ (I.hok.fresh (Nat.le_succ _)) hp (sorted_pw _ (by rw [em];exact a3))⟩
end
end L2
namespace L2
open PySem PySem.Spec PyProof.Rows
def nub:List (List Nat)->List (List Nat)->List (List Nat)
 | acc,[]=>acc
 | acc,l::ls=>if l∈acc then nub acc ls else nub (acc++[l]) ls
def nubTo (ls:List (List Nat)):Nat->List (List Nat)
 | 0=>[]
 | i+1=>if ls.getD i []∈nubTo ls i then nubTo ls i else nubTo ls i++[ls.getD i []]
theorem nubTo_len (ls:List (List Nat)):∀ i,(nubTo ls i).length<=i
 | 0=>Nat.le_refl _
 | i+1=>by
  have h:=nubTo_len ls i
  rw [nubTo]
  split
  ·omega
  ·rw [List.length_append,List.length_singleton]
   omega
theorem nubTo_nodup (ls:List (List Nat)):∀ i,(nubTo ls i).Nodup
 | 0=>List.nodup_nil
 | i+1=>by
  have h:=nubTo_nodup ls i
  rw [nubTo]
  split
  ·exact h
  ·rename_i hn
   refine List.nodup_append.mpr ⟨h,by simp,fun a ha b hb e=>?_⟩
   have hb':b=ls.getD i []:=by simpa using hb
   rw [e,hb'] at ha
   exact hn ha
theorem nubTo_mem (ls:List (List Nat))(x:List Nat):∀ i,i<=ls.length->(x∈nubTo ls i↔x∈ls.take i)
 | 0,_=>by simp [nubTo]
 | i+1,hi=>by
  have h:=nubTo_mem ls x i (by omega)
  have e:ls.take (i+1)=ls.take i++[ls.getD i []]:=by
   rw [List.take_add_one,List.getD_eq_getElem?_getD,List.getElem?_eq_getElem (by omega)]
   rfl
  rw [e,List.mem_append,nubTo]
  split
  ·rename_i hm
   rw [h]
   constructor
   ·exact .inl
   ·rintro (q | q)
    ·exact q
    ·have q':x=ls.getD i []:=by simpa using q
     rw [q',<- nubTo_mem ls _ i (by omega)]
     exact hm
  ·rw [List.mem_append,h]
def uniq (ls:List (List Nat)):List (List Nat):=nubTo ls ls.length
theorem uniq_nodup (ls:List (List Nat)):(uniq ls).Nodup:=nubTo_nodup ls _
theorem uniq_mem (ls:List (List Nat))(x:List Nat):x∈uniq ls↔x∈ls:=by
 rw [uniq,nubTo_mem ls x _ (Nat.le_refl _),List.take_length]
namespace SE
section
variable {prog:Program}{w:World}{A:Around}{R:Result->Shared->Prop}{J:Addr}{fp wr:List Addr}{G:Array GenState->Array GenState->Prop}{n:Nat}{P:Nat->Value->Prop}{St:Nat->Shared->Prop}
abbrev Has (prog:Program)(w:World)(h:Heap)(D:Addr)(ms:List (List Nat)):Prop:=h.SetOf (PySem.strKind prog w) D (fun x=>decide (x.cps.toList∈ms)) ms.length
theorem Has.at {h h':Heap}{D:Addr}{ms:List (List Nat)}(x:Has prog w h D ms)(k:∀ o,h.get? D=some o->h'.get? D=some o):Has prog w h' D ms:=by
 obtain ⟨o,es,ep,tb,ho,r⟩:=x
 exact ⟨o,es,ep,tb,k o ho,r⟩
theorem loop (W:WalksS prog w A.in1 J fp wr G n P St){D:Addr}(hD:D∉fp)(ls:List (List Nat))(hv:∀ i v,P i v->∃ t,v=Value.str (tx (ls.getD i [])) t)(hn:n+1<scanBound) :
  ∀ (k i:Nat) (s:Shared),n-i=k->i<=n->St i s->Has prog w s.heap D (nubTo ls i) ->
   (∀ s',Moved (D::wr) G s s'->Has prog w s'.heap D (nubTo ls n)->R (.ok (.ret .none)) s')->codeAny (model prog w) A (.builtin "set.update.loop" ⟨[.ref D,.ref J],[]⟩) R s:=by
 have hDw:D∉wr:=fun z=>hD (W.sub _ z)
 have up:∀ b∈wr,b∈D::wr:=fun b hb=>.tail _ hb
 intro k
 induction k with
 | zero =>
  intro i s hk hi st hs hR
  obtain rfl:i=n:=by omega
  refine codeAny_builtin PyProof.Rows.F.entry_set_update_loop ?_
  rw [Around.under_plainId PyProof.Rows.F.plain_set_update_loop]
  refine wpAny_bind (m:=pyNext (.ref J)) (W.done s _ _ st fun s2 mv=>?_)
  exact (show wpAny _ A.in1 (ret Value.none) _ _ s2 from wpAny_pure (hR s2 (mv.mono up) (hs.at fun o e=>mv.heap D o hDw e)))
 | succ k ih =>
  intro i s hk hi st hs hR
  have hlt:i<n:=by omega
  refine codeAny_builtin PyProof.Rows.F.entry_set_update_loop ?_
  rw [Around.under_plainId PyProof.Rows.F.plain_set_update_loop]
  refine wpAny_bind (m:=pyNext (.ref J)) (W.item i s _ _ hlt st fun v s2 pv st2 mv=>?_)
  obtain ⟨t,rfl⟩:=hv i v pv
  have hs2:=hs.at fun o e=>mv.heap D o hDw e
  refine wpAny_bind (m:=holding [Value.str (tx (ls.getD i [])) t] (setAdd D (.str (tx (ls.getD i [])) t))) (wpAny_holding ?_)
  unfold setAdd
  refine wpAny_holding (wpAny_bind ((PySem.strKind prog w).pyHash (k:=tx (ls.getD i [])) (strKind_is _ _ _ _) ?_))
  have hl:=nubTo_len ls i
  refine wpAny_setAddHashed_of (knd:=PySem.strKind prog w) (s:={ s2 with toks:=s2.toks+1 }) (strKind_is _ _ _ _) rfl hs2 (by omega) fun h3 sb x3=>?_
  have x4:Has prog w h3 D (nubTo ls (i+1)):=by
   refine PyProof.Rows.SetOf_congr x3 (fun y=>?_) ?_
   ·rw [nubTo]
    split
    ·rename_i hm
     rw [Bool.eq_iff_iff,Bool.or_eq_true,decide_eq_true_iff,decide_eq_true_iff]
     constructor
     ·rintro (q | q)
      ·exact q
      ·rw [q,tx_cps]
       exact hm
     ·exact .inl
    ·rw [Bool.eq_iff_iff,Bool.or_eq_true,decide_eq_true_iff,decide_eq_true_iff,decide_eq_true_iff,List.mem_append,List.mem_singleton]
     constructor
     ·rintro (q | q)
      ·exact .inl q
      ·right
       rw [q,tx_cps]
     ·rintro (q | q)
      ·exact .inl q
      ·right
       rw [<- q,tx_eta]
   ·rw [tx_cps,nubTo]
    by_cases hm:ls.getD i []∈nubTo ls i
    ·rw [if_pos hm,if_pos (decide_eq_true hm)]
    ·rw [if_neg hm,if_neg (by rw [decide_eq_false hm];exact Bool.false_ne_true),List.length_append]
     rfl
  refine wpAny_pure ⟨plainId_quiet PyProof.Rows.F.plain_set_update_loop _,ih (i+1) _ (by omega) hlt (W.frame _ s2 _ _ st2 (Nat.le_succ _) fun b hb o e=>(sb.2 b fun z=>hD (z▸hb)).trans e) x4 fun s5 m5 x5=>?_⟩
  refine hR s5 (Moved.trans W.gtrans ((mv.mono up).then_heap (Nat.le_succ _) fun b o hb e=>(sb.2 b fun z=>hb (z▸.head _)).trans e) m5) x5
variable {E:Value->Shared->Prop}{s:Shared}
theorem call_of {l:Addr}{its:Array Value}{ls:List (List Nat)}{Q:Value->Shared->Prop}(hh:A.handled=none)(hl:s.heap.IsList l its)(hv:∀ i v,its[i]?=some v->∃ t,v=Value.str (tx (ls.getD i [])) t)(hn:its.size+1<scanBound)
  (h:∀ (h':Heap) (tk:Nat),Has prog w h' s.heap.objs.size (nubTo ls its.size)->(∀ b o,s.heap.get? b=some o->h'.get? b=some o)->Q (.ref s.heap.objs.size) { s with heap:=h',toks:=tk }) :
  wpAny (model prog w) A (call (.type "set") [.ref l]) Q E s:=by
 obtain ⟨mc,mt,f0⟩:=F.called_set.mro
 have f1:=F.called_set.made;have f2:=F.called_set.sub;have f3:=F.called_set.notType;have f4:=F.called_set.canCreate;have f5:=F.typeCall_set_1 (.ref l)
 refine wpAny_call (codeAny_of_tree (show wpAny _ _ (callAny (.type "set") _) _ _ _ from wpAny_pure ⟨Code.quiet_builtin _ (by decide +kernel),codeAny_builtin F.entry_type_call ?_⟩))
 rw [Around.under_plain (weight_type_call_type "set" [.ref l] []) rfl]
 repeat (any_goals (first | wp_step | assumption))
 refine codeAny_mono (code_set_new_1 (.ref l) (E:=E) (Q₁:=fun ob s1=>∃ b:Bool,ob = .ref s.heap.objs.size∧s1 = { s with heap:=s.heap.push { cls:=.type "set",dict:=none,data:=.set #[] 0 (.fresh 0 0 b) } }) fun b=>⟨b,rfl,rfl⟩) fun r s1 hr=>?_
 cases r with
 | error e=>exact hr
 | ok fl =>
  cases fl with
  | ret ob =>
   obtain ⟨b,rfl,rfl⟩:=hr
   generalize hob:({ cls:=.type "set",dict:=none,data:=.set #[] 0 (.fresh 0 0 b) }:Obj)=ob
   have hD:(s.heap.push ob).get? s.heap.objs.size=some ob:=Heap.get?_push_size _ (by rw [<- hob];rfl)
   have hT:Shared.TypeIs { s with heap:=s.heap.push ob } (.ref s.heap.objs.size) "set" := ⟨_,hD,by rw [<- hob]⟩
   have f6:=F.called_set.init.lookup;have f7:=F.called_set.init.bind (.ref s.heap.objs.size)
   repeat (any_goals (first | wp_step | assumption))
   refine codeAny_mono (codeAny_call_builtin (R:=wants (fun r s2=>r = .none∧∃ h' tk,s2 = { s with heap:=h',toks:=tk }∧Has prog w h' s.heap.objs.size (nubTo ls its.size)∧∀ b o,s.heap.get? b=some o->h'.get? b=some o) E)
    F.called_set.init.plain F.entry_set_init (check_set_init_1 hT ?_)) fun r2 s2 hr2=>?_
   ·obtain ⟨⟨oc,od,odt,osl⟩,hol,hcl,nl,hdl⟩:=id hl
    simp only at hcl hdl
    subst hcl hdl
    have hol':(s.heap.push ob).get? l=some { cls:=.type "list",dict:=od,data:=.seq its nl,slots:=osl }:=Heap.get?_push_of_some _ hol
    have f8:=F.sub_list_set;have f9:=F.sub_list_frozenset
    have f10:(Value.type "list" == Value.type "dict")=false:=by decide
    have hl1:(s.heap.push ob).IsList l its:=⟨_,hol',rfl,nl,rfl⟩
    subst hob
    unfold Builtin.«set.__init__» noKeywords Builtin.Frozenset.updateFrom
    generalize hPI:pyIter=PI
    wp_walk
    subst hPI
    refine wpAny_pyIter_list hl1 ?_
    refine wpAny_bind (wpAny_runValue ?_)
    have hlt:l<s.heap.objs.size:=Heap.lt_size hol
    have hh3:A.in1.in1.in1.handled=none:=by simp [hh]
    have hsz:(s.heap.push { cls:=.type "set",dict:=none,data:=.set #[] 0 (.fresh 0 0 b) }).objs.size=s.heap.objs.size+1:=Heap.size_push _ _
    have hne:l≠(s.heap.push { cls:=.type "set",dict:=none,data:=.set #[] 0 (.fresh 0 0 b) }).objs.size:=by rw [hsz];exact Nat.ne_of_lt (Nat.lt_succ_of_lt hlt)
    have hfp:s.heap.objs.size∉[(s.heap.push { cls:=.type "set",dict:=none,data:=.set #[] 0 (.fresh 0 0 b) }).objs.size,l]:=by
     rw [hsz]
     intro z
     rcases List.mem_cons.mp z with e | e
     ·exact Nat.ne_of_lt (Nat.lt_succ_self _) e
     ·exact Nat.ne_of_gt hlt (List.mem_singleton.mp e)
    refine loop ((Walks.list hh3 _ l hne its).toS) (D:=s.heap.objs.size) hfp ls hv hn (its.size-0) 0 _ (by omega) (Nat.zero_le _) ⟨⟨_,Heap.get?_push_size _ rfl,rfl,rfl⟩,hl1.push _⟩ ?_ fun s3 mv x3=>?_
    ·have hg:((s.heap.push { cls:=.type "set",dict:=none,data:=.set #[] 0 (.fresh 0 0 b) }).push { cls:=.type "list_iterator",data:=.fields #[.ref l,.int 0 0] }).get? s.heap.objs.size=some { cls:=.type "set",dict:=none,data:=.set #[] 0 (.fresh 0 0 b) }:=Heap.get?_push_of_some _ hD
     exact PyProof.Rows.SetOf_congr ((PyProof.Rows.setObjOf_fresh (knd:=PySem.strKind prog w) b).setOf hg (by unfold scanBound;omega)) (fun _=>rfl) rfl
    ·obtain ⟨h3,g3,d3,tk3,os3⟩:=s3
     obtain rfl:g3=s.gens:=mv.gens
     obtain rfl:d3=s.drawn:=mv.drawn
     obtain rfl:os3=s.os:=mv.os
     refine wpAny_pure (show wpAny _ _ (ret Value.none) _ _ _ from wpAny_pure ⟨rfl,h3,tk3,rfl,x3,fun c o e=>?_⟩)
     have hc:=Heap.lt_size e
     exact mv.heap c o (show c∉[s.heap.objs.size,(s.heap.push { cls:=.type "set",dict:=none,data:=.set #[] 0 (.fresh 0 0 b) }).objs.size] by
      rw [hsz]
      intro z
      rcases List.mem_cons.mp z with e | e
      ·exact Nat.ne_of_lt hc e
      ·exact Nat.ne_of_lt (Nat.lt_succ_of_lt hc) (List.mem_singleton.mp e)) (Heap.get?_push_of_some _ (Heap.get?_push_of_some _ e))
   ·cases r2 with
    | error e=>exact hr2
    | ok fl2 =>
     cases fl2 with
     | ret r =>
      obtain ⟨rfl,h3,tk,rfl,x3,k3⟩:=hr2
      repeat (any_goals (first | wp_step | assumption))
      exact h _ _ x3 k3
     | _=>exact hr2.elim
  | _=>exact hr.elim
end
end SE
def SetT (P:Program)(w:World)(D:Addr)(ms:List (List Nat)):HO:=.ext fun h=>SE.Has P w h D ms
section
variable {X:Cx}
theorem str_at {ls:List (List Nat)}{us:List Value}(r:Vals (ls.map T) us){i:Nat}{v:Value}(h:us[i]?=some v):∃ t,v=Value.str (tx (ls.getD i [])) t:=by
 have hl:=r.length
 rw [List.length_map] at hl
 have hi:i<ls.length:=by have:=(List.getElem?_eq_some_iff.mp h).1;omega
 obtain ⟨u,h1,h2⟩:=r.get (i:=i) (x:=T ls[i]) (by rw [List.getElem?_map,List.getElem?_eq_getElem hi];rfl)
 rw [h] at h1
 cases h1
 rw [List.getD_eq_getElem?_getD,List.getElem?_eq_getElem hi]
 exact h2
theorem call_setT (hc:X.calm=true):CallR X (.type "set") (fun xs H Q=>∃ (p:Addr) (ls:List (List Nat)),xs=[.ref p]∧SqL X.K H p (ls.map T)∧ls.length+1<4096∧∀ D,H D=none->Q (.ref D) (upd H D (SetT X.prog X.w D (uniq ls)))):=by
 intro pins s σ H xs us Q I r h
 obtain ⟨p,ls,rfl,hq,hz,q⟩:=h
 obtain ⟨u,rfl,ru⟩:=vals1 r
 cases ru
 obtain ⟨its,rv,pl,_⟩:=I.list hq
 have hlen:=rv.length
 rw [List.length_map] at hlen
 refine SE.call_of (I.ok.hd hc) pl.isList (ls:=ls) (fun i v e=>str_at rv (by simpa using e)) (by rw [List.size_toArray];unfold scanBound;omega) fun h' tk x k=>?_
 have e:nubTo ls its.toArray.size=uniq ls:=by rw [List.size_toArray,<- hlen];rfl
 rw [e] at x
 have hf:H s.heap.objs.size=none:=I.hok.fresh (Nat.le_refl _)
 refine ⟨.ref s.heap.objs.size,_,I.laid (t':=tk) k (Nat.le_refl _) (o:=SetT X.prog X.w s.heap.objs.size (uniq ls)) ?_,rfl,q _ hf⟩
 refine ⟨x,?_,fun h1 h2 x1 kk=>x1.at kk⟩
 obtain ⟨o,_,_,_,ho,_⟩:=x
 exact ⟨o,ho⟩
theorem call_lenS:CallR X (.builtin "len") (fun xs H Q=>∃ (D:Addr) (ms:List (List Nat)),xs=[.ref D]∧H D=some (SetT X.prog X.w D ms)∧Q (.int (ms.length:Nat)) H):=by
 intro pins s σ H xs us Q I r h
 obtain ⟨D,ms,rfl,hD,q⟩:=h
 obtain ⟨u,rfl,ru⟩:=vals1 r
 cases ru
 obtain ⟨⟨o,es,ep,tb,ho,hex,hd,_,_,hb,hf,hn⟩,_⟩:=(show ObjOk X.prog X.w H s.heap D (SetT X.prog X.w D ms) from I.hok D _ hD)
 have hb':es.size<4096:=hb
 exact call_len_set ho hex hd hf (by omega) ⟨.int (ms.length:Nat),H,I.tok _,⟨s.toks+1,by rw [<- hn]⟩,q⟩
end
end L2
namespace L2
open PySem PySem.Spec PyProof.Rows
section
variable {X:Cx}
namespace LM
end LM
theorem call_len_K (K:PySem.W.Frag)(hK:X.K=K):CallR X (.builtin "len") (fun xs H Q=>∃ p ys,xs=[.ref p]∧(SqL K H p ys∨SqT K H p ys)∧Q (.int ys.length) H):=by
 subst hK
 exact call_len_seq
theorem ix_list_K (K:PySem.W.Frag)(hK:X.K=K):IxR X (rIxL K):=by
 subst hK
 exact ix_list
end
end L2
namespace L2
open PySem PySem.Spec PyProof.Rows
def Itx (l:List Nat):It:=⟨fun i _=>i<l.length,fun i H x H'=>H'=H∧∃ c,l[i]?=some c∧x=T [c],fun i _=>l.length<=i⟩
theorem turn_text {P:Program}{w:World}{K:PySem.W.Frag}{tg:Expr}{it:Addr}{ty:String}{l:List Nat}{t:Tok}(hty:ty = "str_ascii_iterator" ∨ ty = "str_iterator")
  (W:∀ A:Around,A.handled=none->Walks P w A it [it] [it] (tx l).cps.size (SignAt (tx l)) (fun i h=>h.IsStrIter it ty (tx l) t i)):Turn P w K tg (Itx l) [it] it (fun i h=>h.IsStrIter it ty (tx l) t i) where
 mem:=by simp
 obj:=fun i h st b hb=>by
  have e:b=it:=by simpa using hb
  subst e
  obtain ⟨o,e,c,d⟩:=st
  exact ⟨o,e,fun v z=>by rw [d] at z;cases z⟩
 keep:=fun i h h' st k=>by
  obtain ⟨o,e,r⟩:=st
  exact ⟨o,k it (by simp) o e,r⟩
 item:=by
  intro X hP hw hK hc i pins s σ H E I hf st hg
  subst hP hw hK
  obtain ⟨f0,f1,f2,f3,f4,f5⟩:=hf it (by simp)
  refine (W X.A (I.ok.hd hc)).item i s _ _ (by have:i<l.length:=hg;simpa [tx] using this) st fun v h' tk hv st' kk=>?_
  obtain ⟨c,u,hcu,rfl⟩:=hv
  have I1:Inv X pins σ H { s with heap:=h',toks:=tk }:=I.turned (fun b o hb e=>kk b o (by simpa using hb) e) f0 f1 f3 f4 f5
  obtain ⟨o,e,cl,d⟩:=id st'
  refine ⟨_,rfl,go_of (s:={ s with heap:=h',toks:=tk }) (n:=ty) e cl d (by rcases hty with rfl | rfl <;> decide) ⟨T [c],H,I1,⟨u,rfl⟩,⟨rfl,c,?_,rfl⟩,st',fun b hb=>(hf b hb).1⟩⟩
  simpa [tx] using hcu
 done:=by
  intro X hP hw hK hc i pins s σ H E I hf st hg
  subst hP hw hK
  obtain ⟨f0,f1,f2,f3,f4,f5⟩:=hf it (by simp)
  have hn:l.length<=i:=hg
  obtain ⟨o,e,cl,d⟩:=id st
  rcases hty with rfl | rfl
  ·exact wpAny_pyNext_ascii_end (I.ok.hd hc) st (by simpa [tx] using hn) fun h' eb=>⟨rfl,I.turned (t':=s.toks) (fun b o hb e=>eb b o hb e) f0 f1 f3 f4 f5⟩
  ·exact wpAny_pyNext_wide_end (I.ok.hd hc) st (by simpa [tx] using hn) fun h' eb=>⟨rfl,I.turned (t':=s.toks) (fun b o hb e=>eb b o hb e) f0 f1 f3 f4 f5⟩
 self:=fun A i s Q E st h=>by
  rcases hty with rfl | rfl
  ·exact wpAny_pyIter_striter_ascii st h
  ·exact wpAny_pyIter_striter_wide st h
def iStr (tl:TE):TI:=fun σ H R=>tl σ H fun x H1=>∃ l,x=T l∧R (Itx l) H1
section
variable {X:Cx}{tg:Expr}
theorem pi_str {e:Expr}{tl:TE}(hl:PE X e tl):PI X tg e (iStr tl):=by
 intro pins s σ H R I h
 refine thn (hl pins s σ H _ I h) fun v s1 ⟨x,H1,I1,r1,q1⟩=>?_
 obtain ⟨l,rfl,q⟩:=q1
 obtain ⟨t,rfl⟩:=r1
 have fin:∀ (ty:String) (o:Obj),(ty = "str_ascii_iterator" ∨ ty = "str_iterator")->(∀ A:Around,A.handled=none->Walks X.prog X.w A s1.heap.objs.size [s1.heap.objs.size] [s1.heap.objs.size] (tx l).cps.size (SignAt (tx l)) (fun i h=>h.IsStrIter s1.heap.objs.size ty (tx l) t i)) ->
   (s1.heap.push o).IsStrIter s1.heap.objs.size ty (tx l) t 0->PIE X pins σ tg R (.ref s1.heap.objs.size) { s1 with heap:=s1.heap.push o }:=fun ty o hty W st=>by
  refine ⟨s1.heap.objs.size,[s1.heap.objs.size],_,_,H1,rfl,I1.kept (t':=s1.toks) fun b o e=>Heap.get?_push_of_some _ e,turn_text hty W,st,fun b hb=>?_,q⟩
  have e:b=s1.heap.objs.size:=by simpa using hb
  subst e
  exact I1.fpOk (Nat.le_refl _) (I1.hok.fresh (Nat.le_refl _))
 cases ha:(tx l).cps.all (· < 128)
 ·exact wpAny_pyIter_wide ha (fin "str_iterator" _ (.inr rfl) (fun A hA=>Walks.strWide hA _ (tx l) t) ⟨_,Heap.get?_push_size _ rfl,rfl,rfl⟩)
 ·exact wpAny_pyIter_ascii ha (fin "str_ascii_iterator" _ (.inl rfl) (fun A hA=>Walks.strAscii hA _ (tx l) t) ⟨_,Heap.get?_push_size _ rfl,rfl,rfl⟩)
end
theorem for_text {l:List Nat}{g:TG}{tb:TS}{D:Ends}{σ:St}{H:Hp}(Pv:Nat->St->Hp->Prop)(h0:Pv 0 σ H)
  (hs:∀ i c σ H,l[i]?=some c->Pv i σ H->g (T [c]) σ H fun σ2 H2=>tb { D with nx:=Pv (i+1),ct:=Pv (i+1),bk:=D.nx } σ2 H2) (hd:∀ σ H,Pv l.length σ H->D.nx σ H) :
  ∃ W:Nat->Nat->St->Hp->Prop,(∃ m,W 0 m σ H)∧∀ i m σ H,W i m σ H ->
   ((Itx l).stop i H∧D.nx σ H)∨((Itx l).go i H∧∃ N:St->Hp->Prop,(∀ σ' H',N σ' H'->∃ m',m'<m∧W (i+1) m' σ' H')∧∀ x H',(Itx l).yld i H x H'->g x σ H' fun σ2 H2=>tb { D with nx:=N,ct:=N,bk:=D.nx } σ2 H2):=by
 refine ⟨fun i m σ H=>m=l.length-i∧i<=l.length∧Pv i σ H,⟨l.length,by simp,Nat.zero_le _,h0⟩,?_⟩
 rintro i m σ H ⟨rfl,hi,p⟩
 by_cases hlt:i<l.length
 ·refine .inr ⟨hlt,Pv (i+1),fun σ' H' p'=>⟨l.length-(i+1),by omega,rfl,hlt,p'⟩,fun x H' y=>?_⟩
  obtain ⟨rfl,c,hc,rfl⟩:=y
  exact hs i c σ _ hc p
 ·obtain rfl:i=l.length:=by omega
  exact .inl ⟨Nat.le_refl _,hd σ H p⟩
section
variable {X:Cx}
theorem op_notin_sT:OpR X (compareOp .NotIn) (fun x y H Q=>∃ c,x=T [c]∧∃ l,y=T l∧Q (.bl (!decide (c∈l))) H):=by
 intro pins s σ H x y v u Q I rx ry h
 obtain ⟨c,e1,l,e2,q⟩:=h
 exact op_notin_str pins s σ H x y v u Q I rx ry ⟨tx [c],tx l,e1,e2,by rw [show tx [c]=⟨#[c]⟩ from rfl,StrLaws.found_one,tx_cps];exact q⟩
namespace RV
variable {prog:Program}{w:World}{A:Around}{E:Value->Shared->Prop}{s:Shared}
end RV
end
end L2
namespace L2
open PySem PySem.Spec PyProof.Rows
section
variable {P:Program}{w:World}{K:PySem.W.Frag}{mg:Str->Option Value}{base:Heap}
theorem Fun.okN {x qual:Str}{st:Stmt}{f:Addr}{fd:FuncData}{N ps:List Str}{k:Nat}{sp:Sp}(F:Fun K x qual st f fd)(S:FnScope N ps (defScope st))(len:∀ vs H Q E,sp vs H Q E->vs.length=ps.length)
  (hbody:∀ (cdv:Value) (A:Around) (outer:List Env) (s:Shared) (H:Hp) (vs:List V) (Q:VK) (E:XK),Room k (A.deeper (envOfC qual (defScope st) s.heap.objs.size f cdv))->sp vs H Q E ->
   ∃ t,PSs (cxOf (CX1 P w) P w K mg base N qual (defScope st) f cdv A outer s H E).nox (defBody st) t∧t { nx:=fun _ H'=>Q .non H',rt:=Q } (start N vs) H):FnOk P w K mg base (CX1 P w) (k+1) f fd ps sp:=by
 obtain ⟨oc,od,kV,doc,pm,an,cdv,ct,osl,rfl,lk,hcd⟩:=F.ex
 refine fn_of lk hcd S len fun A outer s H vs Q E hr hsp=>?_
 obtain ⟨t,h,q⟩:=hbody cdv A outer s H vs Q E hr hsp
 exact ⟨t,h.nox,q⟩
end
namespace EX
open PySem.W PySem.Calls PySem.Builtin PySem.Builtin.ObjectAttr PySem.Builtin.Getset_descriptor
variable {prog:Program}{w:World}{A:Around}{E:Value->Shared->Prop}{s:Shared}{K:PySem.W.Frag}{a C:Addr}
end EX
section
variable {X:Cx}
end
end L2
namespace L2
open PySem PySem.Spec PyProof.Rows
section
variable {X:Cx}{es:List Expr}{te:TE}{t:TA}
end
end L2
namespace L2
open PySem PySem.Spec PyProof.Rows
section
variable {X:Cx}{tg:Expr}
end
end L2
namespace L2
open PySem
section
variable {X:Cx}{N':List Str}{scope:Scope}{x:Str}{px:Pos}{elt iter cd:Expr}{pos:Pos}{te:TE}{tc:TT}{wi:TI}
theorem pe_compf (S:CompSc X.N N' X.env.scope scope x)(hc:X.calm=true)(hi:PI X (.Name x px) iter wi)(ht:∀ cl C s H fp,PT (cxComp X N' scope cl C s H fp) cd tc)(he:∀ cl C s H fp,PE (cxComp X N' scope cl C s H fp) elt te)
  (hs:∀ x,foldedSetIterable iter X.env x=pure x:=by intro _;rfl):PE X (.ListComp elt [⟨.Name x px,iter,[cd],0⟩] scope pos) (tCompF wi tc te) :=
 pe_compx (at':=fun σ Q=>compAtF tc te σ Q) S hc hi (fun cl C s H fp=>ptl_one (ht cl C s H fp)) he (fun _ _ _ _ h=>h) hs
theorem ps_setCompf {i:Nat}{y:Str}{py spos:Pos}(S:CompSc X.N N' X.env.scope scope x)(hc:X.calm=true)(hi:PI X (.Name x px) iter wi)(ht:∀ cl C s H fp,PT (cxComp X N' scope cl C s H fp) cd tc)(he:∀ cl C s H fp,PE (cxComp X N' scope cl C s H fp) elt te)
  (hN:X.N.Nodup) (hy:X.N[i]?=some y) (hyl:X.env.scope.names.lookup y=some .local)
  (hsw:swapsWith (.ListComp elt [⟨.Name x px,iter,[cd],0⟩] scope pos) (some (.Name y py)) spos.line X.env=pure true:=by rfl)
  (hs:∀ x,foldedSetIterable iter X.env x=pure x:=by intro _;rfl):PS X (.Assign [.Name y py] (.ListComp elt [⟨.Name x px,iter,[cd],0⟩] scope pos) spos) (tAsg (tCompF wi tc te) (gName i)) :=
 ps_setCompx (at':=fun σ Q=>compAtF tc te σ Q) S hc hi (fun cl C s H fp=>ptl_one (ht cl C s H fp)) he (fun _ _ _ _ h=>h) hN hy hyl hsw hs
end
section
variable {X:Cx}
end
theorem take_filter {α:Type}(p:α->Bool)(l:List α)(i:Nat)(v:α)(h:l[i]?=some v):(l.take (i+1)).filter p=(l.take i).filter p++(if p v then [v] else []):=by
 rw [List.take_add_one,h,List.filter_append]
 cases hp:p v <;> simp [hp]
theorem filter_take_len {α:Type}(p:α->Bool)(l:List α)(i:Nat):((l.take i).filter p).length<=i:=by
 have h1:=List.length_filter_le p (l.take i)
 rw [List.length_take] at h1
 omega
theorem cutL_take (w:List Nat)(k:Nat):cutL w none (some (k:Int))=w.take k:=by
 unfold cutL
 rw [HT.sIx_nat,HT.sIx_none,List.drop_zero,Nat.sub_zero]
 by_cases h:k<=w.length
 ·rw [Nat.min_eq_left h]
 ·rw [Nat.min_eq_right (by omega),List.take_length,List.take_of_length_le (by omega)]
end L2
set_option autoImplicit false
namespace SR
open PySem PyProof.Rows
set_option genInjectivity false in
structure SB (kd:SortKind)(z:Array Keyed)(st:SortSt):Prop where
 prm:(arrOf st).Perm z
 knd:kindOf st=kd
 ffl:failedOf st=none
section
variable {prog:Program}{w:World}{A:Around}{E:Value->Shared->Prop}{s:Shared}{z:Array Keyed}{κ:KeyKind}{kd:SortKind}
end
end SR
set_option autoImplicit false
namespace SR
open PySem PyProof.Rows
def gal':Bool->Keyed->Array Keyed->Nat->Nat->Nat->StateT SortSt Sem (Option Nat):=sortPriv% PySem.Builtin.gallop
def bq (left:Bool)(key:Keyed)(arr:Array Keyed)(base:Nat)(i:Nat):StateT SortSt Sem (Option Bool):=do
 let x <- elem' arr (base+i)
 if left then lt' x key else return (<- lt' key x).map (!·)
section
variable {prog:Program}{w:World}{A:Around}{E:Value->Shared->Prop}{s:Shared}{z:Array Keyed}{κ:KeyKind}{kd:SortKind}
end
end SR
set_option autoImplicit false
namespace SR
open PySem PyProof.Rows
section
variable {prog:Program}{w:World}{A:Around}{E:Value->Shared->Prop}{s:Shared}{z:Array Keyed}{κ:KeyKind}{kd:SortKind}
end
end SR
set_option autoImplicit false
namespace SR
open PySem PyProof.Rows
section
variable {prog:Program}{w:World}{A:Around}{E:Value->Shared->Prop}{s:Shared}{κ:KeyKind}{kd:SortKind}
end
end SR
set_option autoImplicit false
namespace SR
open PySem PyProof.Rows
def rt (a:Array Keyed)(n:Nat):List Keyed:=(a.toList.take n).reverse
section
variable {prog:Program}{w:World}{A:Around}{E:Value->Shared->Prop}{s:Shared}{κ:KeyKind}{kd:SortKind}
abbrev HiSt:=Option (Array Keyed)×Nat×Nat×Array Keyed×Nat×Nat×Nat
def hi3 (a b o:Array Keyed)(i j g p q:Nat):StateT SortSt Sem (ForInStep HiSt):=do
 let x <- elem' a (i-1)
 if (i-1==0)=true then pure (ForInStep.done (some (a.extract 0 (i-1)++b.extract 0 j++(o.push x).reverse),i-1,j,o.push x,g,p,q))
 else if (decide (p<7)&&decide (q<7))=true then pure (ForInStep.done (none,i-1,j,o.push x,g,p,q)) else pure (ForInStep.yield (none,i-1,j,o.push x,g,p,q))
def hi2 (a b o:Array Keyed)(i j g p q:Nat):StateT SortSt Sem (ForInStep HiSt):=do
 let x <- elem' b j
 if (j==1)=true then pure (ForInStep.done (some (b.extract 0 j++a.extract 0 i++(o.push x).reverse),i,j,o.push x,g,p,q))
 else do
  let u <- elem' a (i-1)
  let z <- gal' true u b 0 j (j-1)
  match z with
  | some y =>
   if j-y>0 then
    if (y==1)=true then pure (ForInStep.done (some (b.extract 0 y++a.extract 0 i++(o.push x++(b.extract y j).reverse).reverse),i,y,o.push x++(b.extract y j).reverse,g,p,j-y))
    else if (y==0)=true then pure (ForInStep.done (some (a.extract 0 i++b.extract 0 y++(o.push x++(b.extract y j).reverse).reverse),i,y,o.push x++(b.extract y j).reverse,g,p,j-y))
    else hi3 a b (o.push x++(b.extract y j).reverse) i y g p (j-y)
   else hi3 a b (o.push x) i j g p (j-y)
  | _=>pure (ForInStep.done (some (a.extract 0 i++b.extract 0 j++(o.push x).reverse),i,j,o.push x,g,p,q))
end
end SR
set_option autoImplicit false
namespace SR
open PySem PyProof.Rows
def sg (xs:Array Keyed)(l n:Nat):List Keyed:=(xs.toList.drop l).take n
section
variable {κ:KeyKind}{kd:SortKind}
end
end SR
set_option autoImplicit false
namespace SR
open PySem PyProof.Rows
section
variable {prog:Program}{w:World}{A:Around}{E:Value->Shared->Prop}{s:Shared}{z:Array Keyed}{κ:KeyKind}{kd:SortKind}
end
end SR
set_option autoImplicit false
namespace SR
open PySem PyProof.Rows
section
variable {κ:KeyKind}{kd:SortKind}
end
section
variable {prog:Program}{w:World}{A:Around}{E:Value->Shared->Prop}{s:Shared}{z:Array Keyed}{κ:KeyKind}{kd:SortKind}
end
end SR
set_option autoImplicit false
namespace SR
open PySem PyProof.Rows PySem.Spec
section
variable {prog:Program}{w:World}{A:Around}{E:Value->Shared->Prop}{s:Shared}
end
end SR
namespace L2
open PySem PyProof.Rows PySem.Spec
section
variable {X:Cx}
end
end L2
namespace L2
open PySem PyProof.Rows PySem.Spec
section
variable {X:Cx}
theorem vals_countP {x:V}:∀ {xs:List V} {us:List Value},Vals xs us->xs.all flatV=true->us.countP (eqU x)=xs.countP (fun y=>eqV y x)
 | _,_,.nil,_=>rfl
 | y::xs,u::us,.cons r t,f=>by
  rw [List.all_cons,Bool.and_eq_true] at f
  rw [List.countP_cons,List.countP_cons,vals_countP t f.2,eqU_of r f.1]
theorem mt_countV:MtR X "list.count" (fun x xs H Q=>∃ (p:Addr) (ys:List V) (a:V),x = .ref p∧xs=[a]∧SqL X.K H p ys∧ys.all flatV=true∧flatV a=true∧Q (.int ((ys.countP (fun y=>eqV y a):Nat):Int)) H):=by
 intro pins s σ H x xs v us Q I rx rs h
 obtain ⟨p,ys,a,rfl,rfl,hq,hf,ha,q⟩:=h
 cases rx
 obtain ⟨u,rfl,ru⟩:=vals1 rs
 obtain ⟨its,r,⟨⟨cls,dd,data,sl⟩,n,ho,hc,hdd,hd⟩,hz⟩:=I.list hq
 simp only at hc hd
 subst hc hd
 refine call_meets PySem.F.slot_list_count ⟨_,ho,rfl⟩ PySem.F.entry_list_count (PySem.F.args_list_count_2 _ _) (SeqAt.list_countAt p its.toArray n dd sl u (eqU a))
  ⟨ho,fun y hy=>mem_eqAt ru ha r hf y (by simpa using hy),⟨.int ((ys.countP (fun y=>eqV y a):Nat):Int),H,I.tok _,⟨s.toks,by rw [<- vals_countP r hf]⟩,q⟩⟩
theorem call_sumX (hc:X.calm=true):CallR X (.builtin "sum") (fun xs H Q=>∃ (p:Addr) (ns:List Int),xs=[.ref p]∧SqL X.K H p (ns.map V.int)∧Q (.int ns.sum) H):=by
 intro pins s σ H xs us Q I r h
 obtain ⟨p,ns,rfl,hq,q⟩:=h
 obtain ⟨u,rfl,ru⟩:=vals1 r
 cases ru
 obtain ⟨its,rv,pl,_⟩:=I.list hq
 have hia:=intsAre_of rv
 have hnum:=hia.numsOf
 obtain ⟨ys,hx⟩:=hia.allInts.items
 have hl:=pl.isList
 rw [hx] at hl
 have e:preSum (numAt ys) ys.size=ns.sum:=by
  rw [preSum_eq,List.take_of_length_le (by simp)]
  rw [<- hnum,show its=its.toArray.toList from by simp,hx,nums_intItems]
 exact sum_intListG (I.ok.hd hc) hl fun h' tk t' hk=>⟨.int ns.sum,H,I.kept hk,⟨t',by rw [e]⟩,q⟩
end
end L2
namespace L2
open PySem PyProof.Rows PySem.Spec
section
variable {X:Cx}
theorem mt_countK (K:PySem.W.Frag)(hK:X.K=K):MtR X "list.count" (fun x xs H Q=>∃ (p:Addr) (ys:List V) (a:V),x = .ref p∧xs=[a]∧SqL K H p ys∧ys.all flatV=true∧flatV a=true∧Q (.int ((ys.countP (fun y=>eqV y a):Nat):Int)) H):=by
 subst hK
 exact mt_countV
theorem pe_bmK (K:PySem.W.Frag)(hK:X.K=K){o e:Expr}{es:List Expr}{to:TE}{t:TA}{name:Str}{apos cpos:Pos}{T id:String}{r:V->List V->Hp->VK->Prop}
  (pa:PlainAttrs T) (slot:Slot T name id) (hty:typeOf (.builtin id)=pure (.type "method_descriptor")) (hm:MtR X id r) (ho:PE X o to) (ha:PA X (e::es) t)
  (b1:attributeBase o name X.env (eval o X.env)=eval o X.env:=by rfl)
  (b2:((backTo cpos (starEach (e::es) X.env)).all (fun x=>!x.1)&&(backToKw cpos (keywordEach [] X.env)).all (fun x=>x.1.isSome)&&decide ((e::es).length+([]:List Keyword).length+(if ([]:List Keyword).isEmpty then 0 else 1)<30))=true:=by rfl)
  (b3:(apos.endLine==cpos.line)=true:=by rfl) (b4:starEach (e::es) X.env=(false,eval e X.env)::starEach es X.env:=by rfl) (b5:(backTo cpos (starEach es X.env)).any (·.1)=false:=by rfl) :
  PE X (.Call (.Attribute o name apos) (e::es) [] cpos) (tBM K T r to t):=by
 subst hK
 exact pe_bm pa slot hty hm ho ha b1 b2 b3 b4 b5
end
end L2
namespace L2
open PySem PySem.Spec PyProof.Rows
end L2
namespace L2
open PySem PySem.Spec PyProof.Rows
section
variable (P:Program)(w:World)
end
section
variable {P:Program}{w:World}{H H':Hp}{h h':Heap}{a:Addr}{o:HO}
end
section
variable {P:Program}{w:World}{H:Hp}{h h':Heap}{x e:Addr}{o':HO}
end
section
variable {fs fs' ex ex':List Addr}{H H1 H2:Hp}{h h1 h2 h':Heap}{a x e:Addr}{o:HO}
end
end L2
namespace L2
open PySem PySem.Spec PyProof.Rows
section
variable {X:Cx}{pins:List (Addr×Obj)}{σ:List (Option V)}{H H':Hp}{s:Shared}{h':Heap}
end
end L2
namespace L2
open PySem PySem.Spec PyProof.Rows
section
variable {X:Cx}
variable {a b:Expr}{ta tb:TE}{pos:Pos}
variable {tA tB':TT}{rest:List Expr}
end
end L2
namespace L2
open PySem PySem.Spec PyProof.Rows
section
variable {X:Cx}{pins:List (Addr×Obj)}{σ:St}{H:Hp}{s:Shared}{a:Addr}{xs ys:List V}
end
section
variable {X:Cx}{pins:List (Addr×Obj)}{σ:St}{H:Hp}{s:Shared}{E:Value->Shared->Prop}
end
section
variable {X:Cx}{st:Stmt}{rest:List Stmt}{t u:TS}{e:Expr}{te:TE}{pos:Pos}
end
section
variable {X:Cx}{pos:Pos}
end
section
variable {X:Cx}{pos:Pos}
end
end L2
namespace L2
open PySem PySem.Spec PyProof.Rows
section
variable {X:Cx}{tg:Expr}
end
end L2
namespace L2
open PySem PySem.Spec PyProof.Rows
section
variable {X:Cx}{a b c:Expr}{ta tb tc:TE}{pos:Pos}
end
section
variable {X:Cx}{a b c:Expr}{ta tb tc:TE}{pos:Pos}
end
end L2
namespace L2
open PySem PySem.Spec PyProof.Rows
section
variable {prog:Program}{w:World}{A:Around}{E:Value->Shared->Prop}{s:Shared}{K:PySem.W.Frag}{x dx C f:Addr}{mA:Str->Option Value}{name:Str}{v:Value}
end
section
variable {P:Program}{w:World}{H H':Hp}{h h':Heap}{a C dx:Addr}{fs fs':List (Str×V)}
end
section
variable {X:Cx}{pins:List (Addr×Obj)}{σ:St}{H:Hp}{s:Shared}{a C dx:Addr}{fs:List (Str×V)}{f:Str}{v:V}{A:Around}{E:Value->Shared->Prop}
end
section
variable {X:Cx}{o e value:Expr}{f:Str}{pos pos' tpos:Pos}{ta tv:TE}
end
section
variable {X:Cx}{pins:List (Addr×Obj)}{σ:St}{H:Hp}{s:Shared}{A:Around}{E:Value->Shared->Prop}{Q:Value->Shared->Prop}{c:Value}{b:Bool}
end
end L2
namespace L2
open PySem PySem.Spec PyProof.Rows
section
variable {X:Cx}{e:Expr}{es:List Expr}{te:TE}{t:TA}{pos:Pos}
end
section
variable {X:Cx}{pins:List (Addr×Obj)}{σ:St}{H:Hp}{s s':Shared}
end
section
variable {X:Cx}{CX:CXT}{k:Nat}{f C:Addr}{fd:FuncData}{ps:List Str}{sp:Sp}{dvs:List V}{ds:List Value}{E:XK}{x m:Str}{p pos apos:Pos}{e o:Expr}{es:List Expr}{ta:TE}{t:TA}
end
section
variable {X:Cx}{CX:CXT}{k:Nat}{f C:Addr}{fd:FuncData}{ps ks:List Str}{sp:Sp}{E:XK}{x m:Str}{p pos apos kpos:Pos}{e o:Expr}{es:List Expr}{kws:List Keyword}{te ta:TE}{t tk:TA}{nm:Option Str}
variable {g:List Value->List Value->List Value}{gV:List V->List V->List V}
end
end L2
namespace L2
open PySem PySem.Spec PyProof.Rows
section
variable {X:Cx}{x:Str}{p pos:Pos}{e:Expr}{es:List Expr}{t:TA}{id T:String}{r:List V->Hp->VK->Prop}
end
end L2
namespace L2
open PySem PySem.Spec PyProof.Rows
section
variable {κ:Type}[DecidableEq κ]
def valV (kvs:List (κ×V))(k:κ):Option V:=(kvs.find? fun kv=>decide (kv.1=k)).map (·.2)
def putK (kvs:List (κ×V))(k:κ)(v:V):List (κ×V) :=
 if (kvs.any fun kv=>decide (kv.1=k))=true then kvs.map (fun kv=>if kv.1=k then (kv.1,v) else kv) else kvs++[(k,v)]
def dropK (kvs:List (κ×V))(k:κ):List (κ×V):=kvs.filter fun kv=>decide (kv.1≠k)
theorem valV_pos {p:κ×V}{r:List (κ×V)}{k:κ}(e:p.1=k):valV (p::r) k=some p.2:=by simp [valV,List.find?_cons,e]
theorem valV_neg {p:κ×V}{r:List (κ×V)}{k:κ}(e:¬ p.1=k):valV (p::r) k=valV r k:=by simp [valV,List.find?_cons,e]
theorem length_putK (kvs:List (κ×V))(k:κ)(v:V):(putK kvs k v).length<=kvs.length+1:=by
 unfold putK
 split
 ·rw [List.length_map];omega
 ·rw [List.length_append,List.length_cons,List.length_nil];omega
theorem KV.val {kvs:List (κ×V)}{vs:List (κ×Value)}(r:KV kvs vs)(k:κ):RelO (valV kvs k) (valueAt vs k):=by
 unfold KV at r
 induction r with
 | nil=>exact True.intro
 | @cons p q ps qs h t ih =>
  obtain ⟨h1,h2⟩:=h
  by_cases e:p.1=k
  ·have e':q.1=k:=h1.symm.trans e
   have b:valueAt (q::qs) k=some q.2:=by simp [valueAt,List.find?_cons,e']
   rw [valV_pos e,b];exact h2
  ·have e':¬ q.1=k:=fun z=>e (h1.trans z)
   have b:valueAt (q::qs) k=valueAt qs k:=by simp [valueAt,List.find?_cons,e']
   rw [valV_neg e,b];exact ih
theorem KV.any {kvs:List (κ×V)}{vs:List (κ×Value)}(r:KV kvs vs)(k:κ):(kvs.any fun kv=>decide (kv.1=k))=vs.any fun kv=>decide (kv.1=k):=by
 unfold KV at r
 induction r with
 | nil=>rfl
 | cons h t ih=>rw [List.any_cons,List.any_cons,ih,h.1]
theorem KV.repl {kvs:List (κ×V)}{vs:List (κ×Value)}(r:KV kvs vs)(k:κ){y:V}{u:Value}(ry:RelV y u) :
  KV (kvs.map fun kv=>if kv.1=k then (kv.1,y) else kv) (vs.map fun kv=>if kv.1=k then (kv.1,u) else kv):=by
 unfold KV at r ⊢
 induction r with
 | nil=>exact .nil
 | @cons p q ps qs h t ih =>
  rw [List.map_cons,List.map_cons]
  refine .cons ?_ ih
  obtain ⟨h1,h2⟩:=h
  by_cases e:p.1=k
  ·rw [if_pos e,if_pos (h1.symm.trans e)];exact ⟨h1,ry⟩
  ·rw [if_neg e,if_neg (fun z=>e (h1.trans z))];exact ⟨h1,h2⟩
theorem KV.put {kvs:List (κ×V)}{vs:List (κ×Value)}(r:KV kvs vs)(k:κ){y:V}{u:Value}(ry:RelV y u):KV (putK kvs k y) (stored vs k u):=by
 unfold putK stored
 rw [r.any k]
 by_cases e:(vs.any fun kv=>decide (kv.1=k))=true
 ·rw [if_pos e,if_pos e];exact r.repl k ry
 ·rw [if_neg e,if_neg e];exact Paired.snoc r ⟨rfl,ry⟩
theorem KV.drop {kvs:List (κ×V)}{vs:List (κ×Value)}(r:KV kvs vs)(k:κ):KV (dropK kvs k) (without vs k):=by
 unfold KV at r ⊢
 unfold dropK without
 induction r with
 | nil=>exact .nil
 | @cons p q ps qs h t ih =>
  obtain ⟨h1,h2⟩:=h
  rw [List.filter_cons,List.filter_cons]
  by_cases e:p.1=k
  ·have a:¬ decide (p.1≠k)=true:=by simp [e]
   have b:¬ decide (q.1≠k)=true:=by simp [h1.symm.trans e]
   rw [if_neg a,if_neg b];exact ih
  ·have e':¬ q.1=k:=fun z=>e (h1.trans z)
   have a:decide (p.1≠k)=true:=by simp [e]
   have b:decide (q.1≠k)=true:=by simp [e']
   rw [if_pos a,if_pos b];exact .cons ⟨h1,h2⟩ ih
theorem KV.keys {kvs:List (κ×V)}{vs:List (κ×Value)}(r:KV kvs vs):kvs.map (·.1)=vs.map (·.1):=by
 unfold KV at r
 induction r with
 | nil=>rfl
 | cons h t ih=>rw [List.map_cons,List.map_cons,ih,h.1]
theorem KV.length {kvs:List (κ×V)}{vs:List (κ×Value)}(r:KV kvs vs):kvs.length=vs.length:=Paired.length r
theorem dropK_le (kvs:List (κ×V))(k:κ):(dropK kvs k).length<=kvs.length:=List.length_filter_le _ _
end
theorem kV_is {P:Program}{w:World}{k:Key}{u:Value}(r:RelV (kV k) u):(mixKind P w).is k u=true:=by
 cases k with
 | inl i=>obtain ⟨t,e⟩:=(show ∃ t,u=Value.int i t from r);subst e;exact mixKind_int P w i t
 | inr x=>obtain ⟨t,e⟩:=(show ∃ t,u=Value.str x t from r);subst e;exact mixKind_str P w x t
theorem items_are {P:Program}{w:World}:∀ {ks:List Key} {us:List Value},Vals (ks.map kV) us->ItemsAre (mixKind P w) ks us
 | [],_,r=>by rw [List.map_nil] at r;cases r;exact .nil
 | k::ks,_,r=>by
  rw [List.map_cons] at r
  cases r with
  | cons h t=>exact .cons (kV_is h) (items_are t)
abbrev KT (H:Hp):List (List Key×V)->List (List Key×Addr×Value)->Prop:=Paired fun p q=>p.1=q.1∧H q.2.1=some (.tup (p.1.map kV))∧RelV p.2 q.2.2
theorem KT.val {H:Hp}{kvs:List (List Key×V)}{xs:List (List Key×Addr×Value)}(r:KT H kvs xs)(k:List Key):RelO (valV kvs k) ((atKey xs k).map (·.2)):=by
 induction r with
 | nil=>exact True.intro
 | @cons p q ps qs h t ih =>
  obtain ⟨h1,_,h2⟩:=h
  by_cases e:p.1=k
  ·have e':q.1=k:=h1.symm.trans e
   have b:atKey (q::qs) k=some q.2:=by simp [atKey,List.find?_cons,e']
   rw [valV_pos e,b];exact h2
  ·have e':¬ q.1=k:=fun z=>e (h1.trans z)
   have b:atKey (q::qs) k=atKey qs k:=by simp [atKey,List.find?_cons,e']
   rw [valV_neg e,b];exact ih
section
variable {P:Program}{w:World}{H:Hp}{h:Heap}{a:Addr}
theorem rd_of {u:HO}(ok:HOk P w H h)(e:Rd H a u):ObjOk P w H h a u:=e.ok ok
theorem dk_rd {kvs:List (Key×V)}(ok:HOk P w H h)(e:Rd H a (.dK kvs)):kvs.length<=sizeLine∧(a==sysModules)=false∧∃ vs,KV kvs vs∧h.DictOf (mixKind P w) a vs :=
 show ObjOk P w H h a (.dK kvs) from rd_of ok e
theorem dk_of {kvs:List (Key×V)}(ok:HOk P w H h)(e:H a=some (.dK kvs)):kvs.length<=sizeLine∧(a==sysModules)=false∧∃ vs,KV kvs vs∧h.DictOf (mixKind P w) a vs:=dk_rd ok (.inl e)
theorem key_of {ks:List Key}(ok:HOk P w H h)(e:H a=some (.tup (ks.map kV))):(tupleKind (mixKind P w)).is h ks a:=by
 obtain ⟨_,its,r,o,h1,h2,n,h3⟩:=(show ObjOk P w H h a (.tup (ks.map kV)) from ok a _ e)
 exact ⟨o,its.toArray,n,h1,h2,h3,by simpa using items_are r⟩
theorem dt_rd {kvs:List (List Key×V)}(ok:HOk P w H h)(e:Rd H a (.dT kvs)):kvs.length<=sizeLine∧(a==sysModules)=false ∧
  ∃ xs,KT H kvs xs∧h.DictOfH (tupleKind (mixKind P w)) a xs:=by
 obtain ⟨z,y,xs,r,o,es,ep,h1,h2,h3,h4,h5⟩:=(show ObjOk P w H h a (.dT kvs) from rd_of ok e)
 refine ⟨z,y,xs,r,o,es,ep,h1,h2,h3,h4,fun x hx=>?_,h5⟩
 have all:∀ {l:List (List Key×V)} {m:List (List Key×Addr×Value)},KT H l m->∀ x∈m,(tupleKind (mixKind P w)).is h x.1 x.2.1:=by
  intro l m q
  induction q with
  | nil=>intro x hx;exact nomatch hx
  | @cons p q ps qs hq t ih =>
   intro x hx
   rcases List.mem_cons.mp hx with e | hx
   ·subst e
    exact key_of ok (by rw [<- hq.1];exact hq.2.1)
   ·exact ih x hx
 exact all r x hx
end
def DGet (H:Hp)(a:Addr)(y:V)(r:Option V):Prop :=
 (∃ kvs k,Rd H a (.dK kvs)∧y=kV k∧r=valV kvs k)∨∃ kvs k b,Rd H a (.dT kvs)∧y = .ref b∧H b=some (.tup (k.map kV))∧r=valV kvs k
theorem DGet.k {H:Hp}{a:Addr}{kvs:List (Key×V)}{k:Key}(e:H a=some (.dK kvs)):DGet H a (kV k) (valV kvs k):=.inl ⟨kvs,k,.inl e,rfl,rfl⟩
section
variable {X:Cx}{pins:List (Addr×Obj)}{σ:St}{H:Hp}{s:Shared}{a:Addr}{y v:V}{u r:Value}{o:Option V}{A:Around}{E:Value->Shared->Prop}
theorem Inv.big (I:Inv X pins σ H s):sysModules<s.heap.objs.size:=by
 have h:mainGlobals<s.heap.objs.size:=(I.mod.glob.keeps I.bk).lt
 exact Nat.lt_trans (by decide) h
theorem d_getItem {Q:Value->Shared->Prop}(hu:A.units+1<cLine)(I:Inv X pins σ H s)(g:DGet H a y (some v))(ry:RelV y u)(h:∀ w' s',Inv X pins σ H s'->RelV v w'->Q w' s') :
  wpAny (model X.prog X.w) A (getItem (.ref a) u) Q E s:=by
 rcases g with ⟨kvs,k,e,ey,l⟩ | ⟨kvs,k,b,e,ey,eb,l⟩
 ·subst ey
  obtain ⟨z,hd,vs,rel,dd⟩:=dk_rd I.hok e
  obtain ⟨w',hw,rw'⟩:=RelO.some_of (v:=v) (o:=valueAt vs k) (by rw [l];exact rel.val k)
  exact wpAny_getItem_of (kV_is ry) dd.mapOf hw (h w' _ (I.tok _) rw')
 ·subst ey
  cases (show u=Value.ref b from ry)
  obtain ⟨z,hd,xs,rel,dd⟩:=dt_rd I.hok e
  obtain ⟨w',hw,rw'⟩:=RelO.some_of (v:=v) (o:=(atKey xs k).map (·.2)) (by rw [l];exact rel.val k)
  obtain ⟨p,hp,hp2⟩:=Option.map_eq_some_iff.mp hw
  refine wpAny_getItem_heap (tupleKind_room_in1 hu) (key_of I.hok eb) dd hp ?_
  rw [hp2]
  exact h w' _ (I.tok _) rw'
theorem d_write {h':Heap}{t':Nat}{ob:HO}(I:Inv X pins σ H s)(mu:Mut (H a))(hs:Heap.SameBut a s.heap h')(he:∃ q,h'.get? a=some q)(new:ObjOk X.prog X.w (upd H a ob) h' a ob) :
  Inv X pins σ (upd H a ob) { s with heap:=h',toks:=t' } :=
 I.write (x:=a) (e:=a) mu (.inl rfl) (fun b q hb z=>(hs.2 b hb).trans z) he new
theorem dk_new {P:Program}{w:World}{H':Hp}{h':Heap}{kvs:List (Key×V)}{vs:List (Key×Value)}(z:kvs.length<=sizeLine)(hd:(a==sysModules)=false)(rel:KV kvs vs)(dd:h'.DictOf (mixKind P w) a vs) :
 ObjOk P w H' h' a (.dK kvs):=⟨z,hd,vs,rel,dd⟩
end
section
variable {X:Cx}{pins:List (Addr×Obj)}{σ:St}{H:Hp}{s:Shared}{a:Addr}{kvs:List (Key×V)}{k:Key}{u:Value}{A:Around}{E:Value->Shared->Prop}
theorem d_pop {v:V}{more:List Value}{Q:Value->Shared->Prop}(I:Inv X pins σ H s)(e:H a=some (.dK kvs))(ry:RelV (kV k) u)(l:valV kvs k=some v)(hm:more=[]∨∃ x,more=[x])
  (h:∀ w' s',Inv X pins σ (upd H a (.dK (dropK kvs k))) s'->RelV v w'->Q w' s'):wpAny (model X.prog X.w) A (call (.builtin "dict.pop") (.ref a::u::more)) Q E s:=by
 obtain ⟨z,hd,vs,rel,dd⟩:=dk_of I.hok e
 obtain ⟨w',hw,rw'⟩:=RelO.some_of (v:=v) (o:=valueAt vs k) (by rw [<- l];exact rel.val k)
 have hp:(keyPart u).isSome=true:=by
  cases k with
  | inl i=>obtain ⟨t,q⟩:=(show ∃ t,u=Value.int i t from ry);subst q;rfl
  | inr x=>obtain ⟨t,q⟩:=(show ∃ t,u=Value.str x t from ry);subst q;rfl
 have ha:argsOk "dict.pop" ⟨.ref a::u::more,[]⟩:=by
  rcases hm with q | ⟨x,q⟩
  ·subst q;exact PySem.F.args_dict_pop_2 _ _
  ·subst q;exact PySem.F.args_dict_pop_3 _ _ _
 refine call_meetsIn PySem.F.slot_dict_pop dd.typeIs PySem.F.entry_dict_pop ha (meets_dict_pop_there (mixKind X.prog X.w) a (kV_is ry) more hm hp)
  ⟨vs,w',dd,by rw [<- rel.length];exact z,hw,fun h' dd' hs=>h w' _ ?_ rw'⟩
 have he:∃ q,h'.get? a=some q:=let ⟨q,_,_,hq,_⟩:=dd';⟨q,hq⟩
 exact d_write I (by rw [e];exact True.intro) hs he (dk_new (Nat.le_trans (dropK_le kvs k) z) hd (rel.drop k) dd')
theorem d_popD {r:Value}{Q:Value->Shared->Prop}(I:Inv X pins σ H s)(e:H a=some (.dK kvs))(ry:RelV (kV k) u)(l:valV kvs k=none)(h:∀ s',Inv X pins σ H s'->Q r s') :
  wpAny (model X.prog X.w) A (call (.builtin "dict.pop") [.ref a,u,r]) Q E s:=by
 obtain ⟨z,hd,vs,rel,dd⟩:=dk_of I.hok e
 have hn:valueAt vs k=none:=RelO.none_of (by rw [<- l];exact rel.val k)
 have hp:(keyPart u).isSome=true:=by
  cases k with
  | inl i=>obtain ⟨t,q⟩:=(show ∃ t,u=Value.int i t from ry);subst q;rfl
  | inr x=>obtain ⟨t,q⟩:=(show ∃ t,u=Value.str x t from ry);subst q;rfl
 exact call_meetsIn PySem.F.slot_dict_pop dd.typeIs PySem.F.entry_dict_pop (PySem.F.args_dict_pop_3 _ _ _) (meets_dict_pop_default (mixKind X.prog X.w) a (kV_is ry) hd hp r) ⟨vs,dd,hn,h _ (I.tok _)⟩
end
def NoSl (i:Expr):Prop:=∀ ov iv,subscripted i false ov iv=operate [ov,iv] (getItem ov iv)
theorem subD_of {prog:Program}{w:World}{A:Around}{E:Value->Shared->Prop}{s:Shared}{env:Env}{value slice:Expr}{pos:Pos}{T id:String}{Q:Value->Shared->Prop}
  (hl:typeLookup (.type T) "__getitem__" = pure (some (.builtin id))) (hs:NoSl slice)
  (h:wpAny (model prog w) A (eval value env) (fun o s₁=>wpAny (model prog w) A (eval slice env) (fun i s₂=>s₂.TypeIs o T∧wpAny (model prog w) A (getItem o i) Q E s₂) E s₁) E s) :
  wpAny (model prog w) A (eval (.Subscript value slice pos) env) Q E s:=by
 refine Subscript_ (wpAny_mono h (fun o s₁ h₁=>wpAny_mono h₁ (fun i s₂ h₂=>?_) fun _ _ x=>x) fun _ _ x=>x)
 obtain ⟨hT,h₂⟩:=h₂
 unfold subscriptTail
 refine wpAny_bind ?_
 rw [getitemInPython_of_ne hT.not_modules]
 refine wpAny_bind (wpAny_specialOf hT hl ?_)
 have fin:wpAny (model prog w) A (subscripted slice false o i) (fun r s₃=>wpAny (model prog w) A (letTemporaryGo value o r >>= fun _=>pure r) Q E s₃) E s₂:=by
  rw [hs o i]
  exact wpAny_operating (wpAny_mono h₂ (fun r s₃ h₃=>wpAny_bind (wpAny_letTemporaryGo (wpAny_pure h₃))) fun _ _ x=>x)
 first
  | exact wpAny_pure (wpAny_bind fin)
  | exact wpAny_bind (wpAny_pure (wpAny_bind fin))
  | exact wpAny_bind fin
theorem dict_typeIs {X:Cx}{pins:List (Addr×Obj)}{σ:St}{H:Hp}{s:Shared}{a:Addr}{y:V}{o:Option V}(I:Inv X pins σ H s)(g:DGet H a y o):s.TypeIs (.ref a) "dict" := by
 rcases g with ⟨kvs,k,e,_,_⟩ | ⟨kvs,k,b,e,_,_,_⟩
 ·obtain ⟨_,_,vs,_,dd⟩:=dk_rd I.hok e
  exact dd.typeIs
 ·obtain ⟨_,_,xs,_,dd⟩:=dt_rd I.hok e
  exact dd.typeIs
def tDGet (td ty:TE):TE:=fun σ H Q=>td σ H fun x H1=>ty σ H1 fun y H2=>∃ a v,x = .ref a∧DGet H2 a y (some v)∧Q v H2
section
variable {X:Cx}{o i e value:Expr}{pos pos' tpos:Pos}{td ty tv:TE}
theorem pe_dget (hu:X.A.units+1<cLine)(ho:PE X o td)(hi:PE X i ty)(hs:NoSl i):PE X (.Subscript o i pos) (tDGet td ty):=by
 intro pins s σ H Q I h
 refine subD_of PySem.F.slot_dict_getitem.lookup hs (thn (ho pins s σ H _ I h) fun u s1 ⟨x,H1,I1,rx,q1⟩=>thn (hi pins s1 σ H1 _ I1 q1) fun iv s2 ⟨y,H2,I2,ry,a,v,ex,g,q2⟩=>?_)
 subst ex
 obtain rfl:u=Value.ref a:=rx
 exact ⟨dict_typeIs I2 g,d_getItem hu I2 g ry fun w' s3 I3 rw'=>⟨v,H2,I3,rw',q2⟩⟩
end
theorem dk_empty {P:Program}{w:World}{H:Hp}(h:Heap)(hb:sysModules<h.objs.size):ObjOk P w H (h.push { cls:=.type "dict",data:=.dict #[] }) h.objs.size (.dK []) :=
 ⟨Nat.zero_le _,beq_eq_false_iff_ne.mpr (Ne.symm (Nat.ne_of_lt hb)),[],.nil,Heap.DictOf.new h⟩
def tDNewK:TE:=fun _ H Q=>∀ p,H p=none->Q (.ref p) (upd H p (.dK []))
section
variable {X:Cx}{pos:Pos}
theorem pe_dnewK:PE X (.Dict [] [] pos) tDNewK:=fun pins s σ H Q I h =>
 wpAny_Dict_empty ⟨.ref s.heap.objs.size,_,I.laid (a:=s.heap.objs.size) (o:=.dK []) (t':=s.toks) (fun _ _ q=>Heap.get?_push_of_some _ q) (Nat.le_refl _) (dk_empty s.heap I.big),rfl,h _ (I.hok.fresh (Nat.le_refl _))⟩
end
set_option genInjectivity false in
structure M1 (X:Cx)(o:Expr)(m:Str)(apos:Pos)(e:Expr)(cpos:Pos):Prop where
 base:attributeBase o m X.env (eval o X.env)=eval o X.env
 few:((backTo cpos (starEach [e] X.env)).all (fun x=>!x.1)&&(backToKw cpos (keywordEach [] X.env)).all (fun x=>x.1.isSome)
  && decide (([e]:List Expr).length+([]:List Keyword).length+(if ([]:List Keyword).isEmpty then 0 else 1)<30))=true
 line:(apos.endLine==cpos.line)=true
 trees:backTo cpos (starEach [e] X.env)=[(false,eval e X.env)]
set_option genInjectivity false in
structure M2 (X:Cx)(o:Expr)(m:Str)(apos:Pos)(e f:Expr)(cpos:Pos):Prop where
 base:attributeBase o m X.env (eval o X.env)=eval o X.env
 few:((backTo cpos (starEach [e,f] X.env)).all (fun x=>!x.1)&&(backToKw cpos (keywordEach [] X.env)).all (fun x=>x.1.isSome)
  && decide (([e,f]:List Expr).length+([]:List Keyword).length+(if ([]:List Keyword).isEmpty then 0 else 1)<30))=true
 line:(apos.endLine==cpos.line)=true
 trees:backTo cpos (starEach [e,f] X.env)=[(false,eval e X.env),(false,eval f X.env)]
def IsD (H:Hp)(a:Addr):Prop:=(∃ kvs,Rd H a (.dK kvs))∨∃ kvs,Rd H a (.dT kvs)
theorem isD_at {X:Cx}{pins:List (Addr×Obj)}{σ:St}{H:Hp}{s:Shared}{a:Addr}(I:Inv X pins σ H s)(d:IsD H a) :
  s.TypeIs (.ref a) "dict" ∧ (∀ b,Value.ref a = .ref b->∃ ob,s.heap.get? b=some ob∧ob.dict=none)∧(a==sysModules)=false:=by
 rcases d with ⟨kvs,e⟩ | ⟨kvs,e⟩
 ·obtain ⟨_,hd,vs,_,dd⟩:=dk_rd I.hok e
  refine ⟨dd.typeIs,fun b q=>?_,hd⟩
  cases q
  obtain ⟨ob,_,_,h1,h2,_⟩:=dd
  exact ⟨ob,h1,h2.2.1⟩
 ·obtain ⟨_,hd,xs,_,dd⟩:=dt_rd I.hok e
  refine ⟨dd.typeIs,fun b q=>?_,hd⟩
  cases q
  obtain ⟨ob,_,_,h1,h2,_⟩:=dd
  exact ⟨ob,h1,h2.2.1⟩
section
variable {X:Cx}{pins:List (Addr×Obj)}{σ:St}{H:Hp}{s:Shared}{a:Addr}{y d:V}{u r:Value}{o:Option V}{A:Around}{E:Value->Shared->Prop}
end
def tDPop2 (td ty tx:TE):TE:=fun σ H Q=>td σ H fun x H1=>∃ a,x = .ref a∧IsD H1 a∧ty σ H1 fun y H2=>tx σ H2 fun z H3=>∃ kvs k,H3 a=some (.dK kvs)∧y=kV k ∧
 (∀ v,valV kvs k=some v->Q v (upd H3 a (.dK (dropK kvs k))))∧(valV kvs k=none->Q z H3)
section
variable {X:Cx}{o e f:Expr}{apos cpos:Pos}{td ty tx:TE}
theorem pe_dpop2 (ho:PE X o td)(he:PE X e ty)(hf:PE X f tx)(m:M2 X o "pop" apos e f cpos):PE X (.Call (.Attribute o "pop" apos) [e,f] [] cpos) (tDPop2 td ty tx):=by
 intro pins s σ H Q I h
 refine wpAny_Call_method m.base m.few m.line PySem.F.plainAttrs_dict PySem.F.slot_dict_pop PySem.F.type_dict_pop (thn (ho pins s σ H _ I h) fun u s1 ⟨x,H1,I1,rx,a,ex,d,q1⟩=>?_)
 subst ex
 obtain rfl:u=Value.ref a:=rx
 obtain ⟨t1,t2,_⟩:=isD_at I1 d
 refine ⟨t1,t2,?_⟩
 rw [m.trees]
 refine Calls.callWith_builtin rfl (Calls.evalArgs_plain (Calls.spliced_cons (thn (he pins s1 σ H1 _ I1 q1) fun iv s2 ⟨y,H2,I2,ry,q2⟩ =>
  Calls.spliced_cons (thn (hf pins s2 σ H2 _ I2 q2) fun fv s3 ⟨z,H3,I3,rz,kvs,k,ea,ey,q3,q4⟩=>Calls.spliced_nil ?_))))
 subst ey
 cases l:valV kvs k with
 | some v=>exact d_pop I3 ea ry l (.inr ⟨fv,rfl⟩) fun w' s4 I4 rw'=>⟨v,_,I4,rw',q3 v l⟩
 | none=>exact d_popD I3 ea ry l fun s4 I4=>⟨z,H3,I4,rz,q4 l⟩
end
section
variable {X:Cx}{pins:List (Addr×Obj)}{σ:St}{H:Hp}{s:Shared}{a:Addr}{kvs:List (Key×V)}{A:Around}{E:Value->Shared->Prop}
end
section
variable {X:Cx}{pins:List (Addr×Obj)}{σ:St}{H:Hp}{s:Shared}{a:Addr}{y:V}{u:Value}{A:Around}{E:Value->Shared->Prop}
end
end L2
namespace Att
open PySem PySem.W PySem.Calls PyProof.Rows
section
variable {prog:Program}{w:World}{A:Around}{E:Value->Shared->Prop}{s:Shared}{K:Frag}
end
end Att
namespace L2
open PySem PySem.Spec PyProof.Rows
end L2
namespace L2
open PySem PySem.Spec PyProof.Rows
end L2
namespace L2
open PySem PySem.Spec PyProof.Rows
section
variable {P:Program}{w:World}{K:PySem.W.Frag}{mg:Str->Option Value}{base:Heap}
end
section
variable {X:Cx}
end
section
variable {κ:Type}[DecidableEq κ]
end
end L2
namespace L2
open PySem PySem.Spec PyProof.Rows
namespace RT
def obj (x:Str)(t:Tok)(i:Int):Obj:={ cls:=.type "reversed",data:=.fields #[.str x t,rawInt i] }
def Is (h:Heap)(a:Addr)(x:Str)(t:Tok)(i:Int):Prop:=∃ o,h.get? a=some o∧o.cls = .type "reversed" ∧ o.data = .fields #[.str x t,rawInt i]
section
variable {prog:Program}{w:World}{A:Around}{E:Value->Shared->Prop}{s:Shared}
end
section
variable {prog:Program}{w:World}{A:Around}{E:Value->Shared->Prop}{s:Shared}
end
end RT
section
variable {X:Cx}
end
end L2
namespace L2
open PySem PySem.Spec PyProof.Rows
section
variable {X:Cx}
end
end L2
namespace L2
open PySem PySem.Spec PyProof.Rows
set_option genInjectivity false in
structure Cam (P:Program)(w:World)(K:PySem.W.Frag)(mg:Str->Option Value)(base:Heap)(CX:CXT)(x:Str)(C:Addr)(k:Nat)(ps:List Str)(sp:Sp):Prop where
 ex:∃ (f:Addr) (fd:FuncData),FnOk P w K mg base CX k f fd ps sp∧Mk K C f∧mg x=some (.ref C)∧Binds K fd ps []
section
variable {X:Cx}
theorem pe_mak {CX:CXT}{x:Str}{C:Addr}{j k:Nat}{ps:List Str}{sp:Sp}{E:XK}{e:Expr}{es:List Expr}{t:TA}{p pos:Pos}(c:Cam X.prog X.w X.K X.mg X.base CX x C j ps sp)(hr:Room k X.A)(hx:Passes CX X E)(ha:PA X (e::es) t)
  (hjk:j+1<=k:=by decide) (hg:Gl X x:=by rfl) (b1:(x==("__debug__" : Str))=false:=by decide) (b2:starEach (e::es) X.env=(false,eval e X.env)::starEach es X.env:=by rfl) (b3:(backTo pos (starEach es X.env)).any (·.1)=false:=by rfl) :
  PE X (.Call (.Name x p) (e::es) [] pos) (tMake C sp [] E t):=by
 obtain ⟨f,fd,F,M,hm,hb⟩:=c.ex
 exact pe_make M F (hr.mono hjk) hg hm hb .nil hx ha b1 b2 b3
end
end L2
namespace L2
open PySem PySem.Spec PyProof.Rows
section
variable {X:Cx}
end
namespace SE
section
variable {prog:Program}{w:World}{A:Around}{E:Value->Shared->Prop}{s:Shared}
end
end SE
section
variable {X:Cx}
end
end L2
namespace ST
open PySem PySem.SetTable
def it (M:Nat):Nat->Nat->Nat
 | 0,i=>i
 | s+1,i=>it M s ((i*5+1) % M)
def lp (mask:Nat):Nat->Nat->Nat->Nat×Nat
 | 0,i,p=>(i,p)
 | s+1,i,p=>lp mask s (leap mask i p).1 (leap mask i p).2
def vals (N:Nat)(f:Nat->Option Nat):List Nat:=(List.range N).filterMap f
def Good (mask:Nat)(owner:Array (Option Nat))(k:Nat):Prop:=owner.size=mask+1∧(vals (mask+1) fun j=>owner.getD j none).Perm (List.range k)
end ST
namespace SS
open PySem PyProof.Rows
def byT (w:World):Bool:=w.params.followText "set-order"
def keyV:Value->Str
 | .str x _=>x
 | _=>Str.empty
def El (w:World)(e:Int×Value):Prop:=e.1=hashStr w (keyV e.2)∧∃ t,e.2 = .str (keyV e.2) t
def Els (w:World)(es:List (Int×Value))(ms:List Str):Prop:=(∀ e∈es,El w e)∧(es.map fun e=>keyV e.2).Perm ms
def Is (w:World)(h:Heap)(a:Addr)(ms:List Str):Prop :=
 ∃ o es ep t,h.get? a=some o∧o.ExactSet∧o.data = .set es ep t∧Els w es.toList ms∧ms.Nodup∧es.size<scanBound∧t.fits es.size=true∧(byT w=true∨t.led=true)∧(es.size=0∨t.plain=false)
theorem layNew_led (t:SetTable)(es:Array (Int×Value))(h:Int)(x:Value):(layNew t es h x).2.1.led=t.led:=by
 unfold layNew
 split
 ·rename_i slot wd _
  show ((t.put slot).1.orStandIn _).led=t.led
  unfold SetTable.orStandIn
  split <;> rfl
 ·rfl
theorem laid_marks {mask finger moves:Nat}{led plain:Bool}{hs:Array Int}{t:SetTable}{o:Array Nat}(h:SetTable.laid mask finger moves led plain hs=some (t,o)):t.led=led∧t.plain=plain:=by
 unfold SetTable.laid at h
 cases hc:SetTable.layClean mask hs with
 | none=>rw [hc] at h;cases h
 | some ow =>
  rw [hc] at h
  have h':=Option.some.inj h
  rw [<- (Prod.mk.inj h').1]
  exact ⟨rfl,rfl⟩
section
variable {prog:Program}{w:World}{A:Around}{E:Value->Shared->Prop}{s:Shared}
end
end SS
namespace SS
open PySem PyProof.Rows
theorem erase_perm {α:Type}:∀ (l:List α) (i:Nat) (h:i<l.length),(l[i]::l.eraseIdx i).Perm l
 | x::l,0,_=>List.Perm.refl _
 | x::l,i+1,h=>by
  have h':i<l.length:=by simpa using h
  have ih:=erase_perm l i h'
  exact (List.Perm.swap x (l[i]'h') (l.eraseIdx i)).trans (ih.cons x)
theorem pick_perm {α:Type}(next:Nat->Nat)(xs:Array α):(pickOrder next xs).toList.Perm xs.toList:=by
 have key:∀ (fuel k:Nat) (left:List α) (out:Array α),left.length=fuel->(pickOrder.go next fuel k left out).toList.Perm (out.toList++left):=by
  intro fuel
  induction fuel with
  | zero =>
   intro k left out hl
   obtain rfl:=List.length_eq_zero_iff.mp hl
   rw [pickOrder.go,List.append_nil]
  | succ fuel ih =>
   intro k left out hl
   have hlt:next k % left.length<left.length:=Nat.mod_lt _ (by omega)
   rw [pickOrder.go,List.getElem?_eq_getElem hlt]
   dsimp only
   refine (ih _ _ _ (by rw [List.length_eraseIdx_of_lt hlt];omega)).trans ?_
   rw [Array.toList_push,List.append_assoc]
   refine List.Perm.append_left _ ?_
   exact erase_perm left _ hlt
 have z:=key xs.size 0 xs.toList #[] (Array.length_toList)
 simpa [pickOrder] using z
section
variable {prog:Program}{w:World}{A:Around}{E:Value->Shared->Prop}{s:Shared}
theorem byText_ok {Q:Bool->Shared->Prop}(h:Q (byT w) s):wpAny (model prog w) A setsByText Q E s:=by
 unfold setsByText
 exact wpAny_bind (wpAny_askSetting (wpAny_pure h))
end
end SS
namespace SS
open PySem PyProof.Rows
section
variable {prog:Program}{w:World}{A:Around}{E:Value->Shared->Prop}{s:Shared}
def freshO (w:World):Obj:={ cls:=.type "set",dict:=none,data:=.set #[] 0 (.fresh 0 0 (!byT w)) }
end
end SS
namespace SS
open PySem PyProof.Rows
theorem slot_next:Slot "set_iterator" "__next__" "set_iterator.__next__" :=
 .of (owner := "set_iterator") (n := "__next__") (by rw [typeLookup_type,builtinLookup_eq_fast];kernel_rfl) (by decide +kernel) (by decide +kernel) (by decide +kernel) (by first | exact .inl (by decide +kernel) | exact .inr (by decide +kernel)) (by rw [isSubtype_type];kernel_rfl)
theorem entry_next:entryFor table "set_iterator.__next__" = some Builtin.«set_iterator.__next__» := entryFor_of_tree (by kernel_rfl)
theorem args_next (a:Value):argsOk "set_iterator.__next__" ⟨[a],[]⟩:=by unfold argsOk;kernel_rfl
theorem slot_self:Slot "set_iterator" "__iter__" "set_iterator.__iter__" :=
 .of (owner := "set_iterator") (n := "__iter__") (by rw [typeLookup_type,builtinLookup_eq_fast];kernel_rfl) (by decide +kernel) (by decide +kernel) (by decide +kernel) (by first | exact .inl (by decide +kernel) | exact .inr (by decide +kernel)) (by rw [isSubtype_type];kernel_rfl)
theorem args_self (a:Value):argsOk "set_iterator.__iter__" ⟨[a],[]⟩:=by unfold argsOk;kernel_rfl
theorem entry_self:entryFor table "set_iterator.__iter__" = some Builtin.«dict_keyiterator.__iter__» :=
 entryFor_alias (id' := "dict_keyiterator.__iter__") (by kernel_rfl) (by first | rfl | decide +kernel | (unfold String.splitOn;simp +decide [String.splitOnAux])) (by decide +kernel) (by kernel_rfl)
theorem entry_iter:entryFor table "set.__iter__" = some Builtin.«frozenset.__iter__» :=
 entryFor_alias (id' := "frozenset.__iter__") (by kernel_rfl) (by first | rfl | decide +kernel | (unfold String.splitOn;simp +decide [String.splitOnAux])) (by decide +kernel) (by kernel_rfl)
def It (h:Heap)(I a:Addr)(first:Value)(i n ep:Nat):Prop:=∃ o,h.get? I=some o∧o.cls = .type "set_iterator" ∧ o.data = .fields #[first,rawInt (i:Int),.ref a,rawInt (n:Int),rawInt (ep:Int)]
theorem It.at {h h':Heap}{I a:Addr}{first:Value}{i n ep:Nat}(x:It h I a first i n ep)(e:∀ o,h.get? I=some o->h'.get? I=some o):It h' I a first i n ep:=let ⟨o,ho,r⟩:=x;⟨o,e _ ho,r⟩
section
variable {prog:Program}{w:World}{A:Around}{E:Value->Shared->Prop}{s:Shared}
theorem It.ty {I a:Addr}{first:Value}{i n ep:Nat}(x:It s.heap I a first i n ep):s.TypeIs (.ref I) "set_iterator" := let ⟨o,ho,hc,_⟩:=x;⟨o,ho,hc⟩
theorem stop_ok {α:Type}{I:Addr}{s0 s:Shared}{Q:Option Value->Shared->Prop}(hh:A.handled=none)(hQ:∀ h',(∀ b o,s.heap.get? b=some o->h'.get? b=some o)->Q none { s with heap:=h' }) :
  wpAny (model prog w) A.in1 (newExc (.type "StopIteration") [] >>= fun e=>(raiseNew e:Sem Fin)) (fun fin s'=>∃ v,fin = .done (.ret v)∧wpAny (model prog w) A (pure (some v)) Q E s')
   (fun e s'=>wpAny (model prog w) A (do if <- isInstance e (.type "StopIteration") then pure none else throw e) Q E s') s:=by
 refine wpAny_bind ?_
 simp only [newExc,newTuple]
 refine wpAny_bind (wpAny_newObj_type ?_ (by size_fits))
 refine wpAny_bind (m:=firstArgMember _ _) (wpAny_of_eq (a:=Value.none) (by first | rfl | (simp only [firstArgMember];rfl)) ?_)
 refine wpAny_newObj_type ?_ (by size_fits)
 simp only [raiseNew]
 refine wpAny_bind (wpAny_handled ?_)
 first | rw [show A.in1.handled=none from hh] | rw [hh]
 refine wpAny_bind (wpAny_pure (wpAny_throw ?_))
 refine wpAny_bind (wpAny_isInstance (T := "StopIteration") (b:=true) ⟨_,Heap.get?_push_size _ rfl,rfl⟩ isSubtype_stop ?_)
 refine wpAny_pure (hQ _ fun b ob eb=>?_)
 exact Heap.get?_push_of_some _ (Heap.get?_push_of_some _ eb)
end
end SS
namespace SS
open PySem PyProof.Rows
section
variable {prog:Program}{w:World}{A:Around}{E:Value->Shared->Prop}{s:Shared}
theorem item_int {I a:Addr}{o:Obj}{es:Array (Int×Value)}{ep i slot nx:Nat}{t:SetTable}{x:Value}{Q:Option Value->Shared->Prop}(hI:It s.heap I a (rawInt (slot:Int)) i es.size ep)(hne:a≠I)(ho:s.heap.get? a=some o)(hd:o.data = .set es ep t)(hf:t.fits es.size=true)
  (hN:∀ (A':Around) (E':Value->Shared->Prop) (Q':Option (Value×Nat)->Shared->Prop),Q' (some (x,nx)) s->wpAny (model prog w) A' (setNext a slot i ep) Q' E' s)
  (hQ:∀ h',It h' I a (rawInt (nx:Int)) (i+1) es.size ep->Heap.SameBut I s.heap h'->Q (some x) { s with heap:=h' }):wpAny (model prog w) A (pyNext (.ref I)) Q E s:=by
 obtain ⟨oi,hoi,hci,hdi⟩:=id hI
 unfold pyNext
 refine wpAny_bind (wpAny_attempt (wpAny_callSpecial?_slot (name:=Str.ofString "__next__") hI.ty slot_next (wpAny_call_entry slot_next hI.ty entry_next ?_ (args_next _))))
 unfold Builtin.«set_iterator.__next__»
 refine wpAny_bind (wpAny_of_eq (a:=(Value.ref I,[])) rfl ?_)
 try dsimp only
 refine wpAny_bind (wpAny_fieldsOf hoi hdi ?_)
 dsimp only [rawInt]
 refine wpAny_bind (wpAny_setEntries_of ho hd hf ?_)
 rw [if_neg (by simp)]
 refine wpAny_bind (m:=setNext a (slot:Int).toNat (i:Int).toNat (ep:Int).toNat) ?_
 rw [Int.toNat_natCast,Int.toNat_natCast,Int.toNat_natCast]
 refine hN _ _ _ ?_
 dsimp only
 refine wpAny_bind (wpAny_setField hoi hdi (by simp) ?_)
 have h2:=Heap.get?_update_self (Obj.mapFields (·.setIfInBounds 0 (rawInt (nx:Int)))) hoi (Obj.isFreed_of_fields (Obj.data_mapFields hdi _))
 refine wpAny_bind (wpAny_setField h2 (Obj.data_mapFields hdi _) (by simp) ?_)
 refine wpAny_pure ⟨_,rfl,wpAny_pure (hQ _ ?_ ((Heap.SameBut.update ..).trans (Heap.SameBut.update ..)))⟩
 exact ⟨_,Heap.get?_update_self _ h2 (Obj.isFreed_of_fields (Obj.data_mapFields (Obj.data_mapFields hdi _) _)),(Obj.cls_mapFields ..).trans ((Obj.cls_mapFields ..).trans hci),by rw [Obj.data_mapFields (Obj.data_mapFields hdi _)];simp [rawInt]⟩
theorem end_int {I a:Addr}{o:Obj}{es:Array (Int×Value)}{ep i slot:Nat}{t:SetTable}{Q:Option Value->Shared->Prop}(hh:A.handled=none)(hI:It s.heap I a (rawInt (slot:Int)) i es.size ep)(hne:a≠I)(ho:s.heap.get? a=some o)(hd:o.data = .set es ep t)(hf:t.fits es.size=true)
  (hN:∀ (A':Around) (E':Value->Shared->Prop) (Q':Option (Value×Nat)->Shared->Prop),Q' none s->wpAny (model prog w) A' (setNext a slot i ep) Q' E' s)
  (hQ:∀ h',Heap.ExtBut I s.heap h'->Q none { s with heap:=h' }):wpAny (model prog w) A (pyNext (.ref I)) Q E s:=by
 obtain ⟨oi,hoi,hci,hdi⟩:=id hI
 unfold pyNext
 refine wpAny_bind (wpAny_attempt (wpAny_callSpecial?_slot (name:=Str.ofString "__next__") hI.ty slot_next (wpAny_call_entry slot_next hI.ty entry_next ?_ (args_next _))))
 unfold Builtin.«set_iterator.__next__»
 refine wpAny_bind (wpAny_of_eq (a:=(Value.ref I,[])) rfl ?_)
 try dsimp only
 refine wpAny_bind (wpAny_fieldsOf hoi hdi ?_)
 dsimp only [rawInt]
 refine wpAny_bind (wpAny_setEntries_of ho hd hf ?_)
 rw [if_neg (by simp)]
 refine wpAny_bind (m:=setNext a (slot:Int).toNat (i:Int).toNat (ep:Int).toNat) ?_
 rw [Int.toNat_natCast,Int.toNat_natCast,Int.toNat_natCast]
 refine hN _ _ _ ?_
 dsimp only
 refine wpAny_bind (wpAny_setField hoi hdi (by simp) ?_)
 refine wpAny_mono (stop_ok (α:=Unit) (I:=I) (s0:=s) (Q:=Q) (E:=E) hh fun h' kp=>hQ h' fun b ob hb eb=>kp b ob ((Heap.get?_update_other _ _ (Ne.symm hb)).trans eb)) (fun fin s' z=>z) fun e s' z=>z
theorem item_ref {I a tp:Addr}{o ot:Obj}{es:Array (Int×Value)}{ep i p nt:Nat}{t:SetTable}{x:Int×Value}{ps:List Nat}{Q:Option Value->Shared->Prop}(hI:It s.heap I a (.ref tp) i es.size ep)(ho:s.heap.get? a=some o)(hd:o.data = .set es ep t)(hf:t.fits es.size=true)
  (hot:s.heap.get? tp=some ot) (hdt:ot.data = .seq (ps.map fun j:Nat=>rawInt (j:Int)).toArray nt) (hp:ps[i]?=some p) (hx:es[p]?=some x)
  (hQ:∀ h',It h' I a (.ref tp) (i+1) es.size ep->Heap.SameBut I s.heap h'->Q (some x.2) { s with heap:=h' }):wpAny (model prog w) A (pyNext (.ref I)) Q E s:=by
 obtain ⟨oi,hoi,hci,hdi⟩:=id hI
 unfold pyNext
 refine wpAny_bind (wpAny_attempt (wpAny_callSpecial?_slot (name:=Str.ofString "__next__") hI.ty slot_next (wpAny_call_entry slot_next hI.ty entry_next ?_ (args_next _))))
 unfold Builtin.«set_iterator.__next__»
 refine wpAny_bind (wpAny_of_eq (a:=(Value.ref I,[])) rfl ?_)
 try dsimp only
 refine wpAny_bind (wpAny_fieldsOf hoi hdi ?_)
 dsimp only [rawInt]
 refine wpAny_bind (wpAny_setEntries_of ho hd hf ?_)
 rw [if_neg (by simp)]
 refine wpAny_bind (wpAny_seqItems hot hdt ?_)
 dsimp only
 rw [Int.toNat_natCast,List.getElem?_toArray,List.getElem?_map,hp]
 dsimp only [Option.map,rawInt]
 refine wpAny_bind (m:=setNextDrawn a (p:Int).toNat (ep:Int).toNat) ?_
 rw [Int.toNat_natCast,Int.toNat_natCast]
 unfold setNextDrawn
 refine wpAny_bind (wpAny_setState_of ho hd hf ?_)
 dsimp only
 rw [bne_self_eq_false,if_neg Bool.false_ne_true,hx]
 refine wpAny_pure ?_
 refine wpAny_bind (wpAny_setField hoi hdi (by simp) ?_)
 refine wpAny_pure ⟨_,rfl,wpAny_pure (hQ _ ?_ (Heap.SameBut.update ..))⟩
 exact ⟨_,Heap.get?_update_self _ hoi (Obj.isFreed_of_fields (Obj.data_mapFields hdi _)),(Obj.cls_mapFields ..).trans hci,by rw [Obj.data_mapFields hdi];simp [rawInt]⟩
theorem end_ref {I a tp:Addr}{o ot:Obj}{es:Array (Int×Value)}{ep i nt:Nat}{t:SetTable}{ps:List Nat}{Q:Option Value->Shared->Prop}(hh:A.handled=none)(hI:It s.heap I a (.ref tp) i es.size ep)(ho:s.heap.get? a=some o)(hd:o.data = .set es ep t)(hf:t.fits es.size=true)
  (hot:s.heap.get? tp=some ot) (hdt:ot.data = .seq (ps.map fun j:Nat=>rawInt (j:Int)).toArray nt) (hp:ps[i]?=none)
  (hQ:∀ h',Heap.ExtBut I s.heap h'->Q none { s with heap:=h' }):wpAny (model prog w) A (pyNext (.ref I)) Q E s:=by
 obtain ⟨oi,hoi,hci,hdi⟩:=id hI
 unfold pyNext
 refine wpAny_bind (wpAny_attempt (wpAny_callSpecial?_slot (name:=Str.ofString "__next__") hI.ty slot_next (wpAny_call_entry slot_next hI.ty entry_next ?_ (args_next _))))
 unfold Builtin.«set_iterator.__next__»
 refine wpAny_bind (wpAny_of_eq (a:=(Value.ref I,[])) rfl ?_)
 try dsimp only
 refine wpAny_bind (wpAny_fieldsOf hoi hdi ?_)
 dsimp only [rawInt]
 refine wpAny_bind (wpAny_setEntries_of ho hd hf ?_)
 rw [if_neg (by simp)]
 refine wpAny_bind (wpAny_seqItems hot hdt ?_)
 dsimp only
 rw [Int.toNat_natCast,List.getElem?_toArray,List.getElem?_map,hp]
 dsimp only [Option.map]
 refine wpAny_bind (wpAny_setField hoi hdi (by simp) ?_)
 have h2:=Heap.get?_update_self (Obj.mapFields (·.setIfInBounds 0 (rawInt 0))) hoi (Obj.isFreed_of_fields (Obj.data_mapFields hdi _))
 refine wpAny_bind (wpAny_setField h2 (Obj.data_mapFields hdi _) (by simp) ?_)
 refine wpAny_mono (stop_ok (α:=Unit) (I:=I) (s0:=s) (Q:=Q) (E:=E) hh fun h' kp=>hQ h' fun b ob hb eb=>kp b ob ((Heap.get?_update_other _ _ (Ne.symm hb)).trans ((Heap.get?_update_other _ _ (Ne.symm hb)).trans eb))) (fun fin s' z=>z) fun e s' z=>z
theorem self_ok {I a:Addr}{first:Value}{i n ep:Nat}{Q:Value->Shared->Prop}(hI:It s.heap I a first i n ep)(h:Q (.ref I) s):wpAny (model prog w) A (pyIter (.ref I)) Q E s:=by
 refine wpAny_pyIter_slot hI.ty slot_self (wpAny_call_entry slot_self hI.ty entry_self ?_ (args_self _))
 show wpAny _ _ (ret (.ref I)) _ _ s
 exact wpAny_pure ⟨_,rfl, "set_iterator",_,hI.ty,slot_next.lookup,h⟩
theorem wpAny_choose {M:Model}{src:Source}{n:Nat}{Q:Nat->Shared->Prop}(hn:n≠0)(h:∀ i d,i<n->Q i { s with drawn:=d }):wpAny M A (choose src n) Q E s:=fun Γ p hΓ=>⟨hn,h _ _ (Nat.mod_lt _ (Nat.pos_of_ne_zero hn))⟩
theorem draw_ok {α:Type}:∀ (xs:List α) (s:Shared) (Q:List α->Shared->Prop),(∀ ys d,ys.Perm xs->Q ys { s with drawn:=d })->wpAny (model prog w) A (drawOrder xs.length xs) Q E s:=by
 intro xs
 generalize hn:xs.length=n
 induction n generalizing xs with
 | zero =>
  intro s Q h
  obtain rfl:=List.length_eq_zero_iff.mp hn
  rw [drawOrder]
  exact wpAny_pure (h [] s.drawn (List.Perm.refl _))
 | succ n ih =>
  intro s Q h
  cases xs with
  | nil=>cases hn
  | cons x xs =>
   rw [drawOrder]
   rotate_left
   ·intro z
    cases z
   refine wpAny_bind (wpAny_choose (by simp) fun i d hi=>?_)
   rw [List.getElem?_eq_getElem hi]
   dsimp only
   refine wpAny_bind (ih ((x::xs).eraseIdx i) (by rw [List.length_eraseIdx_of_lt hi,hn];rfl) _ _ fun ys d2 hp=>wpAny_pure ?_)
   exact h _ d2 ((hp.cons _).trans (erase_perm _ i hi))
end
end SS
namespace SS
open PySem PyProof.Rows
theorem walk_int {prog:Program}{w:World}{A:Around}{a I:Addr}{o:Obj}{es:Array (Int×Value)}{ep:Nat}{t:SetTable}{L:List (Int×Value)}{slots:Nat->Nat}(hh:A.handled=none)(hne:a≠I)(hd:o.data = .set es ep t)(hf:t.fits es.size=true)
  (hN:∀ (i:Nat) (s:Shared) (A':Around) (E':Value->Shared->Prop) (Q':Option (Value×Nat)->Shared->Prop),s.heap.get? a=some o->i<=L.length->Q' ((L[i]?).map fun e=>(e.2,slots (i+1))) s->wpAny (model prog w) A' (setNext a (slots i) i ep) Q' E' s) :
  Walks prog w A I [I,a] [I] L.length (fun i v=>(L.map (·.2))[i]?=some v) (fun i h=>h.get? a=some o∧It h I a (rawInt (slots i:Int)) i es.size ep) where
 sub:=fun b hb=>by simp at hb;simp [hb]
 frame:=fun _ _ _ y hk=>⟨hk a (by simp) o y.1,y.2.at fun o e=>hk I (by simp) o e⟩
 item:=fun i s Q E hi y hQ=>by
  refine item_int (x:=L[i].2) (nx:=slots (i+1)) y.2 hne y.1 hd hf (fun A' E' Q' q=>hN i s A' E' Q' y.1 (by omega) ?_) fun h' hit hs=>?_
  ·rw [List.getElem?_eq_getElem hi]
   exact q
  ·exact hQ _ h' s.toks (by rw [List.getElem?_map,List.getElem?_eq_getElem hi];rfl) ⟨(hs.2 a hne).trans y.1,hit⟩ fun b o hb eo=>hs.extBut b o (fun h=>hb (by simp [h])) eo
 done:=fun s Q E y hQ=>by
  refine end_int hh y.2 hne y.1 hd hf (fun A' E' Q' q=>hN L.length s A' E' Q' y.1 (Nat.le_refl _) ?_) fun h' he=>hQ h' s.toks fun b o hb eo=>he b o (fun h=>hb (by simp [h])) eo
  rw [List.getElem?_eq_none (Nat.le_refl _)]
  exact q
 self:=fun _ _ _ _ y hQ=>self_ok y.2 hQ
theorem walk_ref {prog:Program}{w:World}{A:Around}{a I tp:Addr}{o ot:Obj}{es:Array (Int×Value)}{ep nt:Nat}{t:SetTable}{ps:List Nat}(hh:A.handled=none)(hne:a≠I)(hnt:tp≠I)(hd:o.data = .set es ep t)(hf:t.fits es.size=true)
  (hdt:ot.data = .seq (ps.map fun j:Nat=>rawInt (j:Int)).toArray nt) (hps:∀ p∈ps,p<es.size) :
  Walks prog w A I [I,a,tp] [I] ps.length (fun i v=>(ps.map fun p=>(es.getD p (0,.none)).2)[i]?=some v) (fun i h=>h.get? a=some o∧h.get? tp=some ot∧It h I a (.ref tp) i es.size ep) where
 sub:=fun b hb=>by simp at hb;simp [hb]
 frame:=fun _ _ _ y hk=>⟨hk a (by simp) o y.1,hk tp (by simp) ot y.2.1,y.2.2.at fun o e=>hk I (by simp) o e⟩
 item:=fun i s Q E hi y hQ=>by
  have hp:ps[i]?=some ps[i]:=List.getElem?_eq_getElem hi
  have hlt:=hps _ (List.getElem_mem hi)
  have hx:es[ps[i]]?=some (es[ps[i]]'hlt):=Array.getElem?_eq_getElem hlt
  refine item_ref y.2.2 y.1 hd hf y.2.1 hdt hp hx fun h' hit hs=>?_
  refine hQ _ h' s.toks ?_ ⟨(hs.2 a hne).trans y.1,(hs.2 tp hnt).trans y.2.1,hit⟩ fun b o hb eo=>hs.extBut b o (fun h=>hb (by simp [h])) eo
  rw [List.getElem?_map,hp]
  show some (es.getD ps[i] (0,Value.none)).2=_
  rw [Array.getD_eq_getD_getElem?,hx]
  rfl
 done:=fun s Q E y hQ=>end_ref hh y.2.2 y.1 hd hf y.2.1 hdt (List.getElem?_eq_none (Nat.le_refl _)) fun h' he=>hQ h' s.toks fun b o hb eo=>he b o (fun h=>hb (by simp [h])) eo
 self:=fun _ _ _ _ y hQ=>self_ok y.2.2 hQ
section
variable {prog:Program}{w:World}{A:Around}{E:Value->Shared->Prop}{s:Shared}
end
end SS
namespace SS
open PySem PyProof.Rows
theorem items_eq {xs:List Value}{acc:Array Value}(h:ItemsOf (fun i v=>xs[i]?=some v) acc xs.length):acc.toList=xs:=by
 apply List.ext_getElem?
 intro i
 rw [Array.getElem?_toList]
 cases e:acc[i]? with
 | some v=>exact (h.2 i v e).symm
 | none =>
  have:acc.size<=i:=by
   rcases Nat.lt_or_ge i acc.size with z | z
   ·rw [Array.getElem?_eq_getElem z] at e;cases e
   ·exact z
  rw [List.getElem?_eq_none (by rw [<- h.1];exact this)]
section
variable {prog:Program}{w:World}{A:Around}{E:Value->Shared->Prop}{s:Shared}
theorem code_new1 (a:Value){Q₁:Value->Shared->Prop}(h:Q₁ (.ref s.heap.objs.size) { s with heap:=s.heap.push (freshO w) }):codeAny (model prog w) A (.call (.builtin "set.__new__") ⟨[.type "set",a],[]⟩) (wants Q₁ E) s:=by
 refine codeAny_of_tree (show wpAny _ A.in1 (do checkBuiltinCall "set.__new__" ⟨[.type "set",a],[]⟩;again (.builtin "set.__new__" ⟨[.type "set",a],[]⟩)) _ _ s from ?_)
 refine wpAny_bind (wpAny_of_eq (F.newCall_set_1 a) (wpAny_pure ⟨plainId_quiet F.plain_set_new _,codeAny_builtin F.entry_set_new ?_⟩))
 rw [Around.under_plainId F.plain_set_new _]
 unfold Builtin.«set.__new__» Builtin.Frozenset.newClass
 have hsub:=sub_set_self
 obtain ⟨hp,g,d,tk,os⟩:=s
 dsimp only
 wp_walk
 refine wpAny_askSetting (wpAny_pure ?_)
 dsimp only
 simp only [newObj]
 refine wpAny_bind (wpAny_alloc (wpAny_pure (wpAny_pure h)))
end
end SS
namespace L2
open PySem PySem.Spec PyProof.Rows
namespace SE
def Of (w:World)(h:Heap)(D:Addr)(ls:List (List Nat))(i:Nat):Prop:=∃ ms,SS.Is w h D ms∧(∀ x,x∈ms↔x∈(ls.take i).map tx)∧ms.length<=i
section
variable {prog:Program}{w:World}{A:Around}{R:Result->Shared->Prop}{J:Addr}{fp wr:List Addr}{G:Array GenState->Array GenState->Prop}{n:Nat}{P:Nat->Value->Prop}{St:Nat->Shared->Prop}
variable {E:Value->Shared->Prop}{s:Shared}
end
end SE
section
variable {X:Cx}
end
end L2
namespace L2
open PySem PySem.Spec PyProof.Rows
set_option genInjectivity false in
structure Reads (J:It)(H:Hp)(vs:List V):Prop where
 go:∀ i H',Same H H'->i<vs.length->J.go i H'
 yl:∀ i H' y H2,Same H H'->J.yld i H' y H2->H2=H'∧vs[i]?=some y
 st:∀ H',Same H H'->J.stop vs.length H'
theorem reads_list {K:PySem.W.Frag}{a:Addr}{H:Hp}{vs:List V}(h:SqL K H a vs):Reads (Itl K a) H vs :=
 ⟨fun i H' s hi=>⟨vs,vs[i],s.seq h,List.getElem?_eq_getElem hi⟩,fun i H' y H2 s ⟨e1,e2⟩=>⟨e1,e2 vs (s.seq h)⟩,fun H' s=>⟨vs,s.seq h,Nat.le_refl _⟩⟩
theorem tupOn {K:PySem.W.Frag}{H H':Hp}{p:Addr}{xs:List V}(s:Same H H')(h:SqT K H p xs):SqT K H' p xs:=by
 rcases h with (h | ⟨q,h⟩) | h
 ·exact .inl (.inl (s _ _ h))
 ·exact .inl (.inr ⟨q,s _ _ h⟩)
 ·exact .inr h
theorem reads_tup {K:PySem.W.Frag}{a:Addr}{H:Hp}{vs:List V}(h:SqT K H a vs):Reads (Itt K a) H vs :=
 ⟨fun i H' s hi=>⟨vs,vs[i],tupOn s h,List.getElem?_eq_getElem hi⟩,fun i H' y H2 s ⟨e1,e2⟩=>⟨e1,e2 vs (tupOn s h)⟩,fun H' s=>⟨vs,tupOn s h,Nat.le_refl _⟩⟩
theorem reads_text {l:List Nat}{H:Hp}:Reads (Itx l) H ((l.map fun c=>[c]).map T) :=
 ⟨fun i H' _ hi=>by (show i<l.length;simpa using hi),fun i H' y H2 _ ⟨e1,c,hc,e2⟩=>⟨e1,by rw [List.getElem?_map,List.getElem?_map,hc,e2];rfl⟩,fun H' _=>by show l.length<=_;simp⟩
theorem compG {J:It}{vs:List V}{te:TE}{σ:St}{H:Hp}{Q:VK}(f:V->V)(rd:Reads J H vs)(hn:vs.length<=sizeLine)
  (he:∀ x H',x∈vs->Same H H'->∀ N:V->Hp->Prop,(∀ H'',Same H' H''->N (f x) H'')->te (some x::σ) H' N)
  (hq:∀ D H',H D=none->Same H H'->H' D=some (.lst (vs.map f))->Q (.ref D) H'):compAt te σ Q J H:=by
 intro D hD
 refine ⟨fun i m ys H2=>m=vs.length-i∧i<=vs.length∧ys=(vs.take i).map f∧Same H H2∧H2 D=some (.lst ys),⟨vs.length,rfl,Nat.zero_le _,rfl,fun b o e=>?_,upd_same⟩,?_⟩
 ·rw [upd_ne (ne_of_none e hD)]
  exact e
 ·rintro i m ys H2 ⟨rfl,hi,rfl,hs,hd⟩
  by_cases hlt:i<vs.length
  ·have hx:vs[i]?=some vs[i]:=List.getElem?_eq_getElem hlt
   refine .inr ⟨rd.go i H2 hs hlt,by rw [List.length_map,List.length_take];omega,fun v H'=>v=f vs[i]∧Same H2 H',fun v H' ⟨ev,hs'⟩=>⟨hs' D _ hd,vs.length-(i+1),by omega,rfl,hlt,?app,fun b o e=>?kp,upd_same⟩,fun y H' hy=>?stp⟩
   case app =>
    rw [ev,List.take_add_one,hx,List.map_append]
    rfl
   case kp =>
    rw [upd_ne (ne_of_none e hD)]
    exact hs' b o (hs b o e)
   case stp =>
    obtain ⟨rfl,e2⟩:=rd.yl i H2 y H' hs hy
    have e4:y=vs[i]:=by rw [hx] at e2;exact (Option.some.inj e2).symm
    subst e4
    exact he _ _ (List.getElem_mem hlt) hs _ fun H'' h''=>⟨rfl,h''⟩
  ·have e:i=vs.length:=by omega
   subst e
   rw [List.take_length] at hd
   exact .inl ⟨rd.st H2 hs,hq D H2 hD hs hd⟩
theorem compFG {J:It}{vs:List V}{tc:TT}{te:TE}{σ:St}{H:Hp}{Q:VK}(p:V->Bool)(f:V->V)(rd:Reads J H vs)(hn:vs.length<=sizeLine)
  (ht:∀ x H',x∈vs->Same H H'->∀ N:Bool->Hp->Prop,(∀ H'',Same H' H''->N (p x) H'')->tc (some x::σ) H' N)
  (he:∀ x H',x∈vs->p x=true->Same H H'->∀ N:V->Hp->Prop,(∀ H'',Same H' H''->N (f x) H'')->te (some x::σ) H' N)
  (hq:∀ D H',H D=none->Same H H'->H' D=some (.lst ((vs.filter p).map f))->Q (.ref D) H'):compAtF tc te σ Q J H:=by
 intro D hD
 refine ⟨fun i m ys H2=>m=vs.length-i∧i<=vs.length∧ys=((vs.take i).filter p).map f∧Same H H2∧H2 D=some (.lst ys),⟨vs.length,rfl,Nat.zero_le _,rfl,fun b o e=>?_,upd_same⟩,?_⟩
 ·rw [upd_ne (ne_of_none e hD)]
  exact e
 ·rintro i m ys H2 ⟨rfl,hi,rfl,hs,hd⟩
  by_cases hlt:i<vs.length
  ·have hx:vs[i]?=some vs[i]:=List.getElem?_eq_getElem hlt
   refine .inr ⟨rd.go i H2 hs hlt,by have:=filter_take_len p vs i;rw [List.length_map];omega,fun v H'=>v=f vs[i]∧p vs[i]=true∧Same H2 H',fun v H' ⟨ev,hp,hs'⟩=>⟨hs' D _ hd,vs.length-(i+1),by omega,rfl,hlt,?app,fun b o e=>?kp,upd_same⟩,
    fun H'=>p vs[i]=false∧Same H2 H',fun H' ⟨hp,hs'⟩=>⟨vs.length-(i+1),by omega,rfl,hlt,?skp,fun b o e=>hs' b o (hs b o e),hs' D _ hd⟩,fun y H' hy=>?stp⟩
   case app =>
    rw [ev,take_filter p vs i _ hx,hp,List.map_append]
    rfl
   case kp =>
    rw [upd_ne (ne_of_none e hD)]
    exact hs' b o (hs b o e)
   case skp =>
    rw [take_filter p vs i _ hx,hp]
    simp
   case stp =>
    obtain ⟨rfl,e2⟩:=rd.yl i H2 y H' hs hy
    have e4:y=vs[i]:=by rw [hx] at e2;exact (Option.some.inj e2).symm
    subst e4
    refine ht _ _ (List.getElem_mem hlt) hs _ fun H'' h''=>?_
    by_cases hp:p vs[i]=true
    ·rw [if_pos hp]
     exact he _ _ (List.getElem_mem hlt) hp (hs.trans h'') _ fun H3 h3=>⟨rfl,hp,h''.trans h3⟩
    ·rw [if_neg hp]
     exact ⟨by simpa using hp,h''⟩
  ·have e:i=vs.length:=by omega
   subst e
   rw [List.take_length] at hd
   exact .inl ⟨rd.st H2 hs,hq D H2 hD hs hd⟩
def unT:V->List Nat
 | .str x=>x.cps.toList
 | _=>[]
theorem unT_T (l:List Nat):unT (T l)=l:=tx_cps l
section
variable {X:Cx}
theorem op_notIn_seqK (K:PySem.W.Frag)(h:X.K=K):OpR X (compareOp .NotIn) (rIn K true):=by subst h;exact op_notIn_seq
end
theorem map_unT {f:List Nat->V}(ls:List (List Nat)):(ls.map T).map (fun x=>f (unT x))=ls.map f:=by
 rw [List.map_map]
 exact List.map_congr_left fun l _=>by show f (unT (T l))=f l;rw [unT_T]
theorem filter_unT {p:List Nat->Bool}:∀ ls:List (List Nat),(ls.map T).filter (fun x=>p (unT x))=(ls.filter p).map T
 | []=>rfl
 | l::ls=>by
  rw [List.map_cons,List.filter_cons,List.filter_cons,unT_T,filter_unT ls]
  split <;> rfl
end L2
namespace SS
open PySem PyProof.Rows L2
section
variable {prog:Program}{w:World}{A:Around}{E:Value->Shared->Prop}{s:Shared}
theorem dhint_ok {a:Addr}{Q:Bool->Shared->Prop}(hS:s.TypeIs (.ref a) "dict")(h:Q false s):wpAny (model prog w) A (Builtin.List.listLengthHint (.ref a)) Q E s:=by
 unfold Builtin.List.listLengthHint
 refine wpAny_bind (wpAny_specialOf hS F.slot_dict_len.lookup ?_)
 generalize hid:("dict.__len__" : String)=id0
 wp_delta
 rw [show splitId id0=some ("dict", "__len__") from by subst hid;decide +kernel]
 subst hid
 refine wpAny_bind (wpAny_isInstance (T := "dict") (b:=true) hS F.sub_dict_dict ?_)
 refine wpAny_ite_split (fun hab=>absurd hab (by decide)) (fun _=>?_)
 refine wpAny_ite_split (fun _=>?_) (fun hab=>absurd (by decide +kernel) hab)
 refine wpAny_bind (wpAny_typeOf hS ?_)
 exact wpAny_pure h
def KeyAt (vs:List (Key×Value))(i:Nat)(v:Value):Prop:=∃ k x,vs[i]?=some (k,x)∧keyIs k v=true
theorem dat_push {h:Heap}{a:Addr}{vs:List (Key×Value)}{ep:Nat}{ob:Obj}(hD:Heap.DictAt (mixKind prog w) h a vs ep):Heap.DictAt (mixKind prog w) (h.push ob) a vs ep:=by
 obtain ⟨o,es,g,r⟩:=hD
 exact ⟨o,es,Heap.get?_push_of_some _ g,r⟩
theorem dat_ty {a:Addr}{vs:List (Key×Value)}{ep:Nat}(hD:Heap.DictAt (mixKind prog w) s.heap a vs ep):s.TypeIs (.ref a) "dict" := by
 obtain ⟨o,es,g,r⟩:=hD
 exact (show Heap.DictOf (mixKind prog w) s.heap a vs from ⟨o,es,ep,g,r⟩).typeIs
theorem dextend_ok {a:Addr}{vs:List (Key×Value)}{ep:Nat}{R:Result->Shared->Prop}(hh:A.handled=none)(hd:(a==sysModules)=false)(hD:Heap.DictAt (mixKind prog w) s.heap a vs ep)(hz:vs.length<=sizeLine)(S:Addr)(res:Value)(h1:S≠a)(hSl:s.heap.get? S=some { cls:=.type "list",data:=.seq #[] })
  (hR:∀ s' acc' c',(∀ b o,b≠S->s.heap.get? b=some o->s'.heap.get? b=some o)->s'.gens=s.gens->s'.os=s.os->s'.heap.get? S=some { cls:=.type "list",dict:=none,data:=.seq acc' c',slots:=#[] }->ItemsOf (KeyAt vs) acc' vs.length->R (.ok (.ret res)) s') :
  wpAny (model prog w) A.in1 (Builtin.List.listExtendWith (.ref S) (.ref a) res)
   (fun fin s'=>match fin with | .done f=>R (.ok f) s' | .again c'=>c'.quiet=true∧codeAny (model prog w) A c' R s') (fun e s'=>R (.error e) s') s:=by
 unfold Builtin.List.listExtendWith
 refine wpAny_bind (wpAny_typeOf (dat_ty hD) ?_)
 have g1:Builtin.List.listSameRef (.ref S) (.ref a)=false:=by simp [Builtin.List.listSameRef,h1]
 have g2:(Value.type "dict" == Value.type "list")=false:=by decide
 have g3:(Value.type "dict" == Value.type "tuple")=false:=by decide
 simp only [g1,g2,g3,Bool.or_false,Bool.false_eq_true,if_false]
 refine wpAny_bind (wpAny_pyIter_dict hd hD ?_)
 have hlt:=Heap.lt_size hSl
 have hal:a<s.heap.objs.size:=by obtain ⟨o,es,g,r⟩:=hD;exact Heap.lt_size g
 generalize hio:({ cls:=Value.type "dict_keyiterator",data:=Data.fields #[Value.ref a,Value.int 0 0,Value.int (↑vs.length) 0,Value.int (↑ep) 0] }:Obj)=io
 have hIs:s.heap.objs.size<=s.heap.objs.size:=Nat.le_refl _
 have hSI:S≠s.heap.objs.size:=Nat.ne_of_lt hlt
 have haI:a≠s.heap.objs.size:=Nat.ne_of_lt hal
 have kp:∀ b o,s.heap.get? b=some o->(s.heap.push io).get? b=some o:=fun b o e=>Heap.get?_push_of_some _ e
 have W:=Walks.dictKeys (prog:=prog) (w:=w) (knd:=mixKind prog w) (A:=A.in1) hh s.heap.objs.size a haI vs ep
 have hD2:Heap.DictAt (mixKind prog w) (s.heap.push io) a vs ep:=dat_push hD
 have st0:(s.heap.push io).IsKeyIter s.heap.objs.size a 0 vs.length ep∧Heap.DictAt (mixKind prog w) (s.heap.push io) a vs ep:=by
  refine ⟨⟨io,Heap.get?_push_size _ (by rw [<- hio];rfl),?_,?_⟩,hD2⟩
  ·rw [<- hio]
  ·rw [<- hio];rfl
 have hSf:S∉[s.heap.objs.size,a]:=by simp [hSI,h1]
 refine wpAny_bind (wpAny_holding (dhint_ok (s:={ s with heap:=s.heap.push io }) (dat_ty (s:={ s with heap:=s.heap.push io }) hD2) ?_))
 have WS:=W.toS
 have last:∀ (h0:Heap) (c0:Nat),(∀ b o,b≠S->(s.heap.push io).get? b=some o->h0.get? b=some o)->h0.get? S=some { cls:=.type "list",data:=.seq #[] c0 } ->
   wpAny (model prog w) A.in1 (again (.builtin "list.extend.loop" ⟨[.ref S,.ref s.heap.objs.size,res],[]⟩))
    (fun fin s'=>match fin with | .done f=>R (.ok f) s' | .again c'=>c'.quiet=true∧codeAny (model prog w) A c' R s') (fun e s'=>R (.error e) s') { s with heap:=h0 }:=fun h0 c0 hk0 hS0=>by
  refine wpAny_pure ⟨plainId_quiet F.plain_extend_loop _,codeAny_extend_loopS WS (by omega) S hSf res vs.length 0 _ #[] c0 rfl (Nat.zero_le _) ?_ hS0 (ItemsOf.nil _) fun s' acc' c' hm hS' hacc=>?_⟩
  ·exact W.frame 0 (s.heap.push io) h0 st0 fun b hb o e=>hk0 b o (fun z=>hSf (z▸hb)) e
  ·refine hR s' acc' c' (fun b o hb e=>?_) hm.gens hm.os hS' hacc
   by_cases hbI:b=s.heap.objs.size
   ·subst hbI
    exact absurd (Heap.lt_size e) (Nat.not_lt.mpr hIs)
   ·exact hm.heap b o (by simp [hb,hbI]) (hk0 b o hb (kp b o e))
 refine wpAny_ite_split (fun _=>?_) (fun hab=>absurd (by decide +kernel) hab)
 refine wpAny_bind (wpAny_rule ?_)
 have hSl2:(s.heap.push io).get? S=some { cls:=.type "list",data:=.seq #[] }:=kp S _ hSl
 refine wpAny_bind (m:=((do updateSeq S (fun z=>z.push .none);updateSeq S (fun z=>z.pop)):Sem Unit)) (wpAny_bind (wpAny_updateSeq (s:={ s with heap:=s.heap.push io }) hSl2 rfl ?_))
 have k1:=Heap.get?_update_self (Obj.mapSeq (fun z=>z.push .none)) hSl2 rfl
 refine wpAny_updateSeq k1 rfl ?_
 have k2:=Heap.get?_update_self (Obj.mapSeq (fun z=>z.pop)) k1 rfl
 exact last _ _ (fun b o hb e=>(Heap.get?_update_other _ _ (Ne.symm hb)).trans ((Heap.get?_update_other _ _ (Ne.symm hb)).trans e)) k2
end
end SS
namespace L2
open PySem PyProof.Rows
section
variable {X:Cx}
theorem strs_pt:∀ (ls:List Str) (us:List Value),us.length=ls.length->(∀ (i:Nat) (v:Value),us[i]?=some v->∃ x t,ls[i]?=some x∧v=Value.str x t)->StrsAre us ls
 | [],[],_,_=>.nil
 | [],_::_,h,_=>nomatch h
 | _::_,[],h,_=>nomatch h
 | y::ls,u::us,h,hp=>by
  obtain ⟨x,t,e1,e2⟩:=hp 0 u rfl
  have e3:y=x:=by simpa using e1
  rw [e2,<- e3]
  exact .cons _ _ (strs_pt ls us (by simpa using h) fun i v e=>by simpa using hp (i+1) v (by simpa using e))
theorem kv_fst:∀ {kvs:List (Key×V)} {vs:List (Key×Value)},KV kvs vs->vs.map (·.1)=kvs.map (·.1)
 | [],[],.nil=>rfl
 | _::_,_::_,.cons h r=>by rw [List.map_cons,List.map_cons,h.1,kv_fst r]
theorem keys_strs {ls:List (List Nat)}{kvs:List (Key×V)}{vs:List (Key×Value)}{acc:Array Value}(hk:kvs.map (·.1)=ls.map fun t=>Sum.inr (tx t))(r:KV kvs vs)(h:ItemsOf (SS.KeyAt vs) acc vs.length):StrsAre acc.toList (ls.map tx):=by
 have e0:vs.map (·.1)=(ls.map tx).map Sum.inr:=by rw [kv_fst r,hk,List.map_map];rfl
 have el:vs.length=ls.length:=by have:=congrArg List.length e0;simpa using this
 refine strs_pt _ _ (by rw [Array.length_toList,h.1,el,List.length_map]) fun i v e=>?_
 obtain ⟨k,x,g1,g2⟩:=h.2 i v (by rw [<- Array.getElem?_toList];exact e)
 have g3:(vs.map (·.1))[i]?=some k:=by rw [List.getElem?_map,g1];rfl
 rw [e0,List.getElem?_map] at g3
 cases g4:(ls.map tx)[i]? with
 | none=>rw [g4] at g3;cases g3
 | some y =>
  rw [g4] at g3
  obtain rfl:Sum.inr y=k:=Option.some.inj g3
  rcases keyIs_shape g2 with ⟨j,t,q1,_⟩ | ⟨z,t,q1,q2⟩
  ·cases q1
  ·cases q1
   exact ⟨y,t,rfl,q2⟩
end
end L2
namespace L2
open PySem PyProof.Rows PySem.Spec
namespace SE
section
variable {prog:Program}{w:World}{A:Around}{E:Value->Shared->Prop}{s:Shared}
end
end SE
section
variable {X:Cx}
end
end L2
namespace L2
open PySem PyProof.Rows PySem.Spec
section
variable {X:Cx}
end
end L2
namespace L2
open PySem PyProof.Rows PySem.Spec
section
variable {X:Cx}
end
end L2
namespace L2
open PySem PyProof.Rows PySem.Spec
section
variable {X:Cx}{pins:List (Addr×Obj)}{σ:List (Option V)}{H H':Hp}{s:Shared}{h':Heap}
theorem Inv.turnedL {t':Nat}{ch:List Addr}(I:Inv X pins σ H s)(k:∀ b o,b∉ch->s.heap.get? b=some o->h'.get? b=some o)(hf:∀ b∈ch,FpOk X pins H b):Inv X pins σ H { s with heap:=h',toks:=t' }:=by
 have nit:∀ b u,H b=some u->b∉ch:=fun b u e z=>by rw [(hf b z).1] at e;cases e
 refine I.step (g':=s.gens) (d':=s.drawn) (ch:=ch) (fun b hb=>?_) (fun b o _ _ hc e _=>k b o hc e) (fun b o _ _ hc e _=>⟨o.slots,k b o hc e⟩) (fun _ _ _ _ n=>n)
  (fun b o hc e=>⟨o,k b o hc e⟩) (fun _ _ e=>e) (fun _ _ _ e=>e) (fun b ps e=>⟨#[],by rw [e];simp⟩) (fun m hm=>?_) (fun b u e=>?_) I.bare
 ·obtain ⟨f0,f1,f2,f3,f4,f5⟩:=hf b hb
  exact ⟨f3,f1,f4,f5⟩
 ·obtain ⟨o,es,ep,ho,r⟩:=hm
  exact ⟨o,es,ep,k _ o (fun z=>(hf _ z).2.1 rfl) ho,r⟩
 ·refine (I.hok b u e).stay (fun c v hc q=>k c v ?_ q) (fun _ q=>q) fun _ _ q=>q
  rcases hc with z | z
  ·rw [z];exact nit b u e
  ·exact nit c _ z
end
def Itz (K:PySem.W.Frag)(a b:Addr):It :=
 ⟨fun i H=>∃ xs ys x y,SqL K H a xs∧SqL K H b ys∧xs[i]?=some x∧ys[i]?=some y,
  fun i H x H'=>∃ (T:Addr) (u v:V),x = .ref T∧H T=none∧H'=upd H T (.tup [u,v])∧(∀ xs,SqL K H a xs->xs[i]?=some u)∧∀ ys,SqL K H b ys->ys[i]?=some v,
  fun i H=>∃ xs ys,SqL K H a xs∧SqL K H b ys∧(xs.length<=i∨ys.length<=i)⟩
theorem turn_zip {P:Program}{w:World}{K:PySem.W.Frag}{elts:List Expr}{x1}{pos:Pos}{a b z TI TO i1 i2:Addr}(D:ZipApart z TI TO i1 i2 a b) :
  Turn P w K (.Tuple elts x1 pos) (Itz K a b) [z,TI,TO,i1,i2] z (fun i h=>IsZip h z TI TO .none∧IsPair h TI (.ref i1) (.ref i2)∧(∃ u v,IsPair h TO u v)∧h.IsListIter i1 a i∧h.IsListIter i2 b i) where
 mem:=by simp
 obj:=fun i h st c hc=>by
  obtain ⟨h1,h2,⟨u,v,h3⟩,⟨o4,e4,c4,d4⟩,⟨o5,e5,c5,d5⟩⟩:=st
  simp only [List.mem_cons,List.not_mem_nil,or_false] at hc
  rcases hc with rfl | rfl | rfl | rfl | rfl
  ·exact ⟨_,h1,fun v z=>by cases z⟩
  ·exact ⟨_,h2,fun v z=>by cases z⟩
  ·exact ⟨_,h3,fun v z=>by cases z⟩
  ·exact ⟨_,e4,fun v z=>by rw [d4] at z;cases z⟩
  ·exact ⟨_,e5,fun v z=>by rw [d5] at z;cases z⟩
 keep:=fun i h h' st k=>by
  obtain ⟨h1,h2,⟨u,v,h3⟩,h4,h5⟩:=st
  exact ⟨k z (by simp) _ h1,k TI (by simp) _ h2,⟨u,v,k TO (by simp) _ h3⟩,h4.at fun o e=>k i1 (by simp) o e,h5.at fun o e=>k i2 (by simp) o e⟩
 item:=by
  intro X hP hw hK hc i pins s σ H E I hf st hg
  subst hP hw hK
  obtain ⟨xs,ys,x,y,hq1,hq2,hx,hy⟩:=hg
  obtain ⟨its,rv,p,hz⟩:=I.list hq1
  obtain ⟨its2,rv2,p2,hz2⟩:=I.list hq2
  obtain ⟨u,hu,ru⟩:=rv.get hx
  obtain ⟨v,hv,rv'⟩:=rv2.get hy
  obtain ⟨h1,h2,⟨c1,c2,h3⟩,h4,h5⟩:=st
  refine wpAny_pyNext_zip_item D h1 h2 h3 h4 h5 p.isList p2.isList (x:=u) (y:=v) (by simpa using hu) (by simpa using hv) fun h' z1 z2 z3 z4 z5 z6 z7=>?_
  refine ⟨_,rfl,wpAny_letOwnedTupleGo_zip (s:={ s with heap:=h' }) z1 fun h'' y1 y2=>?_⟩
  have hT:H s.heap.objs.size=none:=I.hok.fresh (Nat.le_refl _)
  have I1:Inv X pins σ (upd H s.heap.objs.size (.tup [x,y])) { s with heap:=s.heap.push { cls:=.type "tuple",data:=.seq #[u,v] },toks:=s.toks } :=
   I.laid (t':=s.toks) (fun b u e=>Heap.get?_push_of_some _ e) (Nat.le_refl _) ⟨(by show 2<=sizeLine;rw [sizeLine_eq];decide),[u,v],.cons ru (.cons rv' .nil),⟨_,Heap.get?_push_size _ rfl,rfl,_,rfl⟩⟩
  have nf:∀ c∈[z,TI,TO,i1,i2],c≠s.heap.objs.size:=fun c hc e=>by
   have lt:∃ o,s.heap.get? c=some o:=by
    obtain ⟨o4,e4,_⟩:=id h4
    obtain ⟨o5,e5,_⟩:=id h5
    simp only [List.mem_cons,List.not_mem_nil,or_false] at hc
    rcases hc with rfl | rfl | rfl | rfl | rfl
    ·exact ⟨_,h1⟩
    ·exact ⟨_,h2⟩
    ·exact ⟨_,h3⟩
    ·exact ⟨_,e4⟩
    ·exact ⟨_,e5⟩
   obtain ⟨o,ho⟩:=lt
   have:=Heap.lt_size ho
   rw [e] at this
   exact Nat.lt_irrefl _ this
  have hf1:∀ c∈[z,TI,TO,i1,i2],FpOk X pins (upd H s.heap.objs.size (.tup [x,y])) c:=fun c hc=>by
   obtain ⟨f0,f⟩:=hf c hc
   exact ⟨by rw [upd_ne (nf c hc)];exact f0,f⟩
  have I2:Inv X pins σ (upd H s.heap.objs.size (.tup [x,y])) { s with heap:=h'',toks:=s.toks } :=
   Inv.turnedL (s:={ s with heap:=s.heap.push { cls:=.type "tuple",data:=.seq #[u,v] },toks:=s.toks }) (t':=s.toks) (ch:=[z,TI,TO,i1,i2]) I1 (fun b o hb e=>by
    simp only [List.mem_cons,List.not_mem_nil,or_false,not_or] at hb
    obtain ⟨b1,b2,b3,b4,b5⟩:=hb
    refine (y2.2 b b1).trans ?_
    rcases Heap.get?_push_cases e with ⟨rfl,rfl⟩ | e
    ·exact z5
    ·exact z7 b o b1 b3 b4 b5 e) hf1
  refine ⟨.ref s.heap.objs.size,_,I2,rfl,⟨s.heap.objs.size,x,y,rfl,hT,rfl,fun zs hzs=>by rw [I.list_inj hzs hq1];exact hx,fun zs hzs=>by rw [I.list_inj hzs hq2];exact hy⟩,⟨y1,?_,⟨u,v,?_⟩,?_,?_⟩,fun c hc=>(hf1 c hc).1⟩
  ·exact (y2.2 TI D.TIz).trans (z7 TI _ D.TIz D.TITO D.TIi1 D.TIi2 h2)
  ·exact (y2.2 TO D.TOz).trans z2
  ·exact z3.at fun o e=>(y2.2 i1 D.i1z).trans e
  ·exact z4.at fun o e=>(y2.2 i2 D.i2z).trans e
 done:=by
  intro X hP hw hK hc i pins s σ H E I hf st hg
  subst hP hw hK
  obtain ⟨xs,ys,hq1,hq2,hl⟩:=hg
  obtain ⟨its,rv,p,hz⟩:=I.list hq1
  obtain ⟨its2,rv2,p2,hz2⟩:=I.list hq2
  obtain ⟨h1,h2,⟨c1,c2,h3⟩,h4,h5⟩:=st
  have l1:=rv.length
  have l2:=rv2.length
  refine wpAny_pyNext_zip_end (I.ok.hd hc) D h1 h2 h3 h4 h5 p.isList p2.isList ?_ fun h' kk=>⟨rfl,?_⟩
  ·rcases hl with g | g
   ·exact .inl (by simp;omega)
   ·exact .inr (by simp;omega)
  ·exact I.turnedL (t':=s.toks) (ch:=[z,TI,TO,i1,i2]) (fun b o hb e=>by
    simp only [List.mem_cons,List.not_mem_nil,or_false,not_or] at hb
    obtain ⟨b1,b2,b3,b4,b5⟩:=hb
    exact kk b o b1 b3 b4 b5 e) hf
 self:=fun _ _ _ _ _ st h=>wpAny_pyIter_zip st.1 h
section
variable {X:Cx}
def iZip (K:PySem.W.Frag)(ta:TA):TI:=fun σ H R=>ta σ H fun xs H1=>∃ a b:Addr,xs=[.ref a,.ref b]∧(∃ us,SqL K H1 a us)∧(∃ vs,SqL K H1 b vs)∧R (Itz K a b) H1
theorem pi_zip {a b:Expr}{ta:TA}{p pos pos':Pos}{elts:List Expr}{x1}(hg:Gl X "zip")(hm:X.mg "zip" = none)(ha:PA X [a,b] ta)(hs:starEach [a,b] X.env=[(false,eval a X.env),(false,eval b X.env)]:=by rfl)(hs2:starEach [b] X.env=[(false,eval b X.env)]:=by rfl) :
  PI X (.Tuple elts x1 pos') (.Call (.Name "zip" p) [a,b] [] pos) (iZip X.K ta):=by
 intro pins s σ H R I h
 refine Call_ (ld_blt I hg hm boot_zip (PyProof.Rows.callWith_type1 (thn (ha pos pins s σ H _ I h) fun us s1 ⟨vs,H1,I1,r1,q1⟩=>?_) (by rw [hs,hs2]) (by rw [hs2];rfl)))
 obtain ⟨l1,l2,e,⟨us1,hq1⟩,⟨us2,hq2⟩,q⟩:=q1
 subst e
 cases r1 with
 | cons r rr =>
  cases rr with
  | cons r' rr =>
   cases rr
   cases r
   cases r'
   obtain ⟨its,rv,p,hz⟩:=I1.list hq1
   obtain ⟨its2,rv2,p2,hz2⟩:=I1.list hq2
   obtain ⟨o1,ho1,_⟩:=id p.isList
   obtain ⟨o2,ho2,_⟩:=id p2.isList
   refine call_zip_2 p.isList p2.isList fun h' z1 z2 z3 z4 z5 z6 z7=>?_
   refine wpAny_pyIter_zip (s:={ s1 with heap:=h' }) z1 ?_
   have fr:∀ c,s1.heap.objs.size<=c->FpOk X pins H1 c:=fun c hc=>I1.fpOk hc (I1.hok.fresh hc)
   refine ⟨s1.heap.objs.size+4,[s1.heap.objs.size+4,s1.heap.objs.size+2,s1.heap.objs.size+3,s1.heap.objs.size,s1.heap.objs.size+1],_,_,H1,rfl,I1.kept (t':=s1.toks) z7,turn_zip (zipApart_new (Heap.lt_size ho1) (Heap.lt_size ho2)),⟨z1,z2,⟨_,_,z3⟩,z4,z5⟩,fun c hc=>fr c ?_,q⟩
   simp only [List.mem_cons,List.not_mem_nil,or_false] at hc
   rcases hc with rfl | rfl | rfl | rfl | rfl
   ·exact Nat.le_add_right _ _
   ·exact Nat.le_add_right _ _
   ·exact Nat.le_add_right _ _
   ·exact Nat.le_refl _
   ·exact Nat.le_add_right _ _
end
end L2
namespace L2
open PySem PyProof.Rows PySem.Spec
end L2
namespace L2
open PySem PyProof.Rows PySem.Spec
namespace ZS
section
variable {prog:Program}{w:World}{A:Around}{E:Value->Shared->Prop}{s:Shared}
end
end ZS
section
variable {X:Cx}
end
end L2
namespace L2
open PySem PyProof.Rows PySem.Spec
section
variable {X:Cx}
end
end L2
namespace L2
open PySem PyProof.Rows PySem.Spec
theorem on1 {α:Type}{C:List α->Prop}{us:List α}(h:us.length=1)(k:∀ a,C [a]):C us:=match us,h with | [a],_=>k a
theorem on2 {α:Type}{C:List α->Prop}{us:List α}(h:us.length=2)(k:∀ a b,C [a,b]):C us:=match us,h with | [a,b],_=>k a b
theorem on3 {α:Type}{C:List α->Prop}{us:List α}(h:us.length=3)(k:∀ a b c,C [a,b,c]):C us:=match us,h with | [a,b,c],_=>k a b c
theorem on4 {α:Type}{C:List α->Prop}{us:List α}(h:us.length=4)(k:∀ a b c d,C [a,b,c,d]):C us:=match us,h with | [a,b,c,d],_=>k a b c d
section
variable {X:Cx}
theorem pss_dead {st:List Stmt}:PSs X st (fun _ _ _=>False):=fun _ _ _ _ _ _ h=>h.elim
theorem argBest_least (ls:List (List Nat)):∀ k,k<ls.length->argBest (fun i j=>decide (ls.getD i []<ls.getD j [])) k<=k∧∀ i,i<=k->¬ ls.getD i []<ls.getD (argBest (fun i j=>decide (ls.getD i []<ls.getD j [])) k) []
 | 0,_=>⟨Nat.le_refl _,fun i hi=>by
   obtain rfl:i=0:=(by omega)
   exact List.lt_irrefl _⟩
 | k+1,h=>by
  obtain ⟨h1,h2⟩:=argBest_least ls k (by omega)
  rw [argBest]
  by_cases c:ls.getD (k+1) []<ls.getD (argBest (fun i j=>decide (ls.getD i []<ls.getD j [])) k) []
  ·rw [if_pos (decide_eq_true c)]
   refine ⟨Nat.le_refl _,fun i hi z=>?_⟩
   by_cases e:i=k+1
   ·subst e;exact List.lt_irrefl _ z
   ·exact h2 i (by omega) (List.lt_trans z c)
  ·rw [if_neg (fun z=>c (of_decide_eq_true z))]
   refine ⟨by omega,fun i hi z=>?_⟩
   by_cases e:i=k+1
   ·subst e;exact c z
   ·exact h2 i (by omega) z
theorem vals_text {ls:List (List Nat)}{its:List Value}(r:Vals (ls.map T) its){i:Nat}{v:Value}(h:its[i]?=some v):∃ t,i<ls.length∧v = .str (tx (ls.getD i [])) t:=by
 have hl:=r.length
 rw [List.length_map] at hl
 have hi:i<ls.length:=by have:=(List.getElem?_eq_some_iff.mp h).1;omega
 have e:ls[i]?=some (ls.getD i []):=by rw [List.getD_eq_getElem?_getD,List.getElem?_eq_getElem hi];rfl
 obtain ⟨u,e1,q1⟩:=r.get (show (ls.map T)[i]?=some (T (ls.getD i [])) by rw [List.getElem?_map,e];rfl)
 rw [h] at e1
 cases e1
 obtain ⟨t,rfl⟩:=q1
 exact ⟨t,hi,rfl⟩
theorem call_minT (hc:X.calm=true):CallR X (.builtin "min") (fun xs H Q=>∃ (p:Addr) (ls:List (List Nat)),xs=[.ref p]∧SqL X.K H p (ls.map T)∧ls≠[]∧∀ m∈ls,(∀ y∈ls,¬ y<m)->Q (T m) H):=by
 intro pins s σ H xs us Q I r h
 obtain ⟨p,ls,rfl,hq,hne,q⟩:=h
 obtain ⟨u,rfl,ru⟩:=vals1 r
 cases ru
 obtain ⟨its,rv,pl,_⟩:=I.list hq
 have hl:=pl.isList
 have hlen:=rv.length
 rw [List.length_map] at hlen
 have hpos:0<ls.length:=List.length_pos_iff.mpr hne
 have hlt:p<s.heap.objs.size:=by obtain ⟨_,e,_⟩:=hl;exact Heap.lt_size e
 refine call_min_walk (wpAny_pyIter_list hl ?_)
 refine ⟨_,[s.heap.objs.size,p],[s.heap.objs.size],_,_,_,fun i j=>decide (ls.getD i []<ls.getD j []),rfl,Walks.list (A:=X.A.in1) (I.ok.hd hc) _ p (Nat.ne_of_lt hlt) its.toArray,⟨⟨_,Heap.get?_push_size _ rfl,rfl,rfl⟩,hl.push _⟩,fun b hb=>?_,(by rw [List.size_toArray];omega),fun i j vi vj s' Q' E' hi hj h'=>?_,fun v h' tk hP hk=>?_⟩
 ·show b<(s.heap.push _).objs.size
  rw [Heap.size_push]
  simp only [List.mem_cons,List.not_mem_nil,or_false] at hb
  rcases hb with rfl | rfl
  ·exact Nat.lt_succ_self _
  ·exact Nat.lt_succ_of_lt hlt
 ·obtain ⟨t,_,rfl⟩:=vals_text rv (by simpa using hi)
  obtain ⟨t',_,rfl⟩:=vals_text rv (by simpa using hj)
  exact richCompare_gives (op:=.Lt) (typeIs_str s' _ t) (typeIs_str s' _ t') F.slot_str_lt F.entry_str_lt (F.args_str_lt_2 _ _) (gives_str_lt _ _ t t') (fun x=>nomatch x) (by rw [tx_cps,tx_cps];exact h')
 ·rw [List.size_toArray,show its.length=ls.length by omega] at hP
  obtain ⟨b1,b2⟩:=argBest_least ls (ls.length-1) (by omega)
  generalize argBest (fun i j=>decide (ls.getD i []<ls.getD j [])) (ls.length-1)=bi at hP b1 b2
  obtain ⟨t,hi,rfl⟩:=vals_text rv (i:=bi) (by rw [<- List.getElem?_toArray];exact hP)
  have e:ls[bi]?=some (ls.getD bi []):=by rw [List.getD_eq_getElem?_getD,List.getElem?_eq_getElem hi];rfl
  refine ⟨T (ls.getD bi []),H,I.kept (old_kept hk),⟨t,rfl⟩,q _ (List.mem_of_getElem? e) fun y hy=>?_⟩
  obtain ⟨i,hi',rfl⟩:=List.mem_iff_getElem.mp hy
  have:=b2 i (by omega)
  rw [List.getD_eq_getElem?_getD (l:=ls) (i:=i),List.getElem?_eq_getElem hi'] at this
  exact this
end
end L2
namespace L2
open PySem PySem.Spec PyProof.Rows
set_option genInjectivity false in
structure CompSc2 (N N':List Str)(sc scope:Scope)(x y2:Str):Prop where
 kind:scope.kind = .function
 cell:∀ y∈scope.names,y.2≠.cell
 names:∀ y∈scope.names,y.2 = .local->scope.names.lookup y.1=some .local
 var:scope.names.lookup x=some .local
 var2:scope.names.lookup y2=some .local
 ok:∀ y∈scope.names,y.2 = .free->sc.names.lookup y.1=some .cell∨sc.names.lookup y.1=some .free
 hd:N'[0]?=some x
 hd2:N'[1]?=some y2
 len:N'.length=N.length+2
 sub:∀ i,i<N.length->N'[i+2]?=N[i]?∨N'[i+2]?=some ("" : Str)
 noe:scope.names.lookup ("" : Str)=none
 nol:∀ y∈N'.tail.tail,scope.names.lookup y≠some .local
 nd:N'.Nodup
def compAt2 (K:PySem.W.Frag)(te:TE)(σ:St)(Q:VK)(J:It)(H1:Hp):Prop:=∀ D,H1 D=none->∃ W:Nat->Nat->List V->Hp->Prop,(∃ m,W 0 m [] (upd H1 D (.lst [])))∧∀ i m ys H2,W i m ys H2 ->
 (J.stop i H2∧Q (.ref D) H2)∨(J.go i H2∧ys.length<sizeLine∧∃ N:V->Hp->Prop,(∀ v H',N v H'->H' D=some (.lst ys)∧∃ m',m'<m∧W (i+1) m' (ys++[v]) (upd H' D (.lst (ys++[v])))) ∧
  ∀ y H',J.yld i H2 y H'->∃ (a:Addr) (u v:V),y = .ref a∧SqT K H' a [u,v]∧te (some u::some v::σ) H' N)
def tComp2 (K:PySem.W.Frag)(wi:TI)(te:TE):TE:=fun σ H Q=>wi σ H (compAt2 K te σ Q)
section
variable {X:Cx}{N':List Str}{scope:Scope}{x y2:Str}{px py py2 pt:Pos}{elt iter:Expr}{pos:Pos}{te:TE}{wi:TI}
theorem comp_core2 (S:CompSc2 X.N N' X.env.scope scope x y2)(hc:X.calm=true)(he:∀ cl C s H fp,PE (cxComp X N' scope cl C s H fp) elt te)
  {pins:List (Addr×Obj)} {σ:St} {H:Hp} {s:Shared} {Q:VK} {E:Value->Shared->Prop} {RR:Value->Addr->Result->Shared->Prop} {it:Addr} {fp:List Addr} {tn:Nat->Heap->Prop} {J:It}
  (I:Inv X pins σ H s) (T:Turn X.prog X.w X.K (.Tuple [.Name x px,.Name y2 py] 0 pt) J fp it tn) (st:tn 0 s.heap) (f2:∀ b∈fp,FpOk X pins H b)
  (hw:compAt2 X.K te σ Q J H)
  (hRR:∀ D C s' H',Inv X pins σ H' s'->(∃ m,s'.heap.Ns C m)->C≠X.env.locals->(∀ y c,X.env.cells.lookup y=some c->c≠C)->H' C=none->X.s₀.heap.objs.size<=C->(∀ p∈X.pn++pins,p.1≠C)->Q (.ref D) H'->RR (.ref D) C (.ok .next) s') :
  ∃ cl,closureFor scope X.env=pure cl∧wpAny (model X.prog X.w) X.A (newList []) (fun acc s₃=>wpAny (model X.prog X.w) X.A (newFunctionEnv scope X.env.globals cl [] X.env.qual none .none (some X.env)) (fun cenv s₄ =>
   codeAny (model X.prog X.w) X.A (.compStart (.ListComp elt [⟨.Tuple [.Name x px,.Name y2 py] 0 pt,iter,[],0⟩] scope pos) 0 (.ref it) acc { cenv with scope:=relabel scope X.env }) (RR acc cenv.locals) s₄) E s₃) E s:=by
 have hfree:∀ z∈scope.names,z.2 = .free->∃ c,X.env.cells.lookup z.1=some c:=fun z hz hk=>by
  rcases S.ok z hz hk with q | q
  ·exact I.ok.has z.1 (.inl q)
  ·exact I.ok.has z.1 (.inr q)
 refine ⟨_,clos_eq hfree,?_⟩
 have clS:∀ y c,(closOf X.env.cells scope.names []).lookup y=some c->X.env.cells.lookup y=some c:=fun y c=>clos_sound scope.names [] hfree fun q=>by cases q
 generalize hcl:closOf X.env.cells scope.names []=cl at clS
 have clH:∀ y,scope.names.lookup y=some .free->∃ c,cl.lookup y=some c:=fun y hy=>by
  rw [<- hcl]
  exact clos_has scope.names [] (lookup_mem hy)
 refine wpAny_newObj_type (wpAny_newFunctionEnv S.cell (by intro y hy;simp at hy) (fun h₁ hns₁ hsb₁=>?_) S.kind)
 have I3:Inv X pins σ (upd H s.heap.objs.size (.lst [])) { s with heap:=s.heap.push { cls:=.type "list",data:=.seq ([]:List Value).toArray } }:=I.lnew (t':=s.toks) .nil (Nat.zero_le _)
 obtain ⟨W,⟨m0,w0⟩,turn⟩:=hw s.heap.objs.size I.fresh
 dsimp only at hns₁ hsb₁ ⊢
 generalize hs3:({ s with heap:=s.heap.push { cls:=.type "list",data:=.seq ([]:List Value).toArray } }:Shared)=s3 at I3
 have hh3:s3.heap=s.heap.push { cls:=.type "list",data:=.seq ([]:List Value).toArray }:=by rw [<- hs3]
 have hsz3:s3.heap.objs.size=s.heap.objs.size+1:=by rw [hh3,Heap.size_push]
 rw [<- hh3] at hns₁ hsb₁ ⊢
 have old:∀ b o,s3.heap.get? b=some o->h₁.get? b=some o:=fun b o e=>hsb₁.extBut b o (by have:=Heap.lt_size e;exact Nat.ne_of_lt this) (Heap.get?_push_of_some _ e)
 have old0:∀ b o,s.heap.get? b=some o->h₁.get? b=some o:=fun b o e=>old b o (by rw [hh3];exact Heap.get?_push_of_some _ e)
 have CneL:s3.heap.objs.size≠X.env.locals:=Nat.ne_of_gt I3.lt
 have CneC:∀ y c,X.env.cells.lookup y=some c->c≠s3.heap.objs.size:=fun y c e z=>by
  obtain ⟨v,q⟩:=I3.cell y c e
  have:=q.lt
  rw [z] at this
  exact absurd this (Nat.lt_irrefl _)
 have CneP:∀ p∈X.pn++pins,p.1≠s3.heap.objs.size:=fun p hp z=>by
  have:=Heap.lt_size (I3.pin p hp).1
  rw [z] at this
  exact absurd this (Nat.lt_irrefl _)
 have CfreeH:∀ b o,s3.heap.get? b=some o->b<s3.heap.objs.size:=fun b o e=>by have:=Heap.lt_size e;exact this
 have fpLt:∀ b∈fp,b<s3.heap.objs.size:=fun b hb=>by
  obtain ⟨o,e,_⟩:=T.obj 0 s.heap st b hb
  rw [hsz3]
  exact Nat.lt_succ_of_lt (Heap.lt_size e)
 have fpD:∀ b∈fp,b≠s.heap.objs.size:=fun b hb=>by
  obtain ⟨o,e,_⟩:=T.obj 0 s.heap st b hb
  exact Nat.ne_of_lt (Heap.lt_size e)
 have ok':(cxComp X N' scope cl s3.heap.objs.size s3 (upd H s.heap.objs.size (.lst [])) fp).Ok:=by
  refine ⟨I3.ok.mod,?_,I3.ok.glob,I3.ok.blt,Nat.le_refl _,fun y z c h1 h2=>I3.ok.inj y z c (clS y c h1) (clS z c h2),fun y hy=>?_,fun y c hf=>(by cases hf),I3.ok.hd,I3.ok.frames,.inl rfl,fun b hb=>⟨Nat.ne_of_lt (fpLt b hb),fun y c e=>(f2 b hb).2.2.2.2.1 y c (clS y c e)⟩,
   fun b o e=>I3.bs b o e,Nat.le_trans I3.ok.bsz I3.sz,fun b o e hb=>?_,fun b hb z=>?_,I3.stack,I3.stkFree⟩
  ·show (relabel scope X.env).kind = .function
   exact S.kind
  ·have hy':(relabel scope X.env).names.lookup y=some .cell∨(relabel scope X.env).names.lookup y=some .free:=hy
   rw [relabel_lookup] at hy'
   cases q:scope.names.lookup y with
   | none=>rw [q] at hy';rcases hy' with z | z <;> cases z
   | some k =>
     have hm:=lookup_mem q
     cases k with
     | free=>exact clH y q
     | cell=>exact absurd rfl (S.cell _ hm)
     | «local» => rw [q] at hy';rcases hy' with z | z <;> simp at z
     | globalExplicit=>rw [q] at hy';rcases hy' with z | z <;> simp at z
     | globalImplicit=>rw [q] at hy';rcases hy' with z | z <;> simp at z
  ·rcases (f2 b hb).2.2.2.1 with z | z
   · exact I.ok.noex b o e z
   · exact absurd (Nat.lt_of_lt_of_le (Heap.lt_size e) (Nat.le_trans I.ok.bsz z)) (Nat.lt_irrefl _)
  ·rcases List.mem_cons.mp (I3.stkSub b z) with q | q
   · exact (f2 b hb).2.1 q
   · exact (f2 b hb).2.2.1 q
 have fpOk':∀ {H':Hp},(∀ b∈fp,H' b=none)->∀ b∈fp,FpOk (cxComp X N' scope cl s3.heap.objs.size s3 (upd H s.heap.objs.size (.lst [])) fp) pins H' b:=fun hn b hb =>
  ⟨hn b hb,Nat.ne_of_lt (fpLt b hb),fun z=>by
   rcases List.mem_cons.mp (I3.stkSub b z) with q | q
   · exact (f2 b hb).2.1 q
   · exact (f2 b hb).2.2.1 q,.inl hb,fun y c e=>(f2 b hb).2.2.2.2.1 y c (clS y c e),(f2 b hb).2.2.2.2.2⟩
 have I4:Inv (cxComp X N' scope cl s3.heap.objs.size s3 (upd H s.heap.objs.size (.lst [])) fp) pins (none::none::σ) (upd H s.heap.objs.size (.lst [])) { s3 with heap:=h₁,toks:=s3.toks+([]:List (Str×Value)).length }:=by
  refine ⟨ok',rfl,I3.bare,Un.kept old,⟨_,hns₁,fun i y v e1 e2 vis=>?_⟩,fun y c e=>?_,?_,fun y c e=>I3.freeC y c (clS y c e),fun p hp=>?_,I3.hok.kept old,?_⟩
  ·cases i with
   | zero=>cases e2
   | succ i =>
    cases i with
    | zero=>cases e2
    | succ i =>
     have e2':σ[i]?=some (some v):=by simpa using e2
     have hi:i<X.N.length:=by rw [<- I3.len];exact (List.getElem?_eq_some_iff.mp e2').1
     have vis':(relabel scope X.env).names.lookup y=some .local∨(relabel scope X.env).names.lookup y=some .cell∨(relabel scope X.env).names.lookup y=some .free:=vis
     have e1':N'[i+2]?=some y:=e1
     rcases S.sub i hi with q | q
     ·rw [e1'] at q
      have hy:X.N[i]?=some y:=q.symm
      have hmem:y∈N'.tail.tail:=by
       rw [List.mem_iff_getElem?]
       exact ⟨i,by rw [List.getElem?_tail,List.getElem?_tail];exact e1'⟩
      have hfr:scope.names.lookup y=some .free:=by
       rw [relabel_lookup] at vis'
       cases q2:scope.names.lookup y with
       | none=>rw [q2] at vis';rcases vis' with z | z | z <;> cases z
       | some k =>
        cases k with
        | free=>rfl
        | cell=>exact absurd rfl (S.cell _ (lookup_mem q2))
        | «local» => exact absurd q2 (S.nol y hmem)
        | globalExplicit=>rw [q2] at vis';rcases vis' with z | z | z <;> simp at z
        | globalImplicit=>rw [q2] at vis';rcases vis' with z | z | z <;> simp at z
      have hok:=S.ok (y,.free) (lookup_mem hfr) rfl
      obtain ⟨m,hn,hl⟩:=I3.loc
      have visX:Vis X.env.scope y:=by
       rcases hok with z | z
       ·exact .inr (.inl z)
       ·exact .inr (.inr z)
      obtain ⟨u,r,l⟩:=hl i y v hy e2' visX
      refine ⟨u,r,.inr ⟨?_,?_⟩⟩
      ·show (relabel scope X.env).names.lookup y=some .cell∨(relabel scope X.env).names.lookup y=some .free
       rw [relabel_lookup,hfr,Option.map_some]
       by_cases hcnd:(NameKind.free==NameKind.free&&X.env.scope.kind == .function&&X.env.kindOf y==some .cell)=true
       ·left
        rw [if_pos hcnd]
       ·right
        rw [if_neg hcnd]
      ·rcases l with ⟨k,_⟩ | ⟨k,c,e,z⟩
       ·have k':X.env.scope.names.lookup y=some .local:=k
        have hok':X.env.scope.names.lookup y=some .cell∨X.env.scope.names.lookup y=some .free:=hok
        rw [k'] at hok'
        rcases hok' with z | z <;> cases z
       ·obtain ⟨c',e'⟩:=clH y hfr
        have e3:=clS y c' e'
        rw [e] at e3
        cases e3
        obtain ⟨o,ho,hd⟩:=z
        exact ⟨c,e',o,old c o ho,hd⟩
     ·rw [e1'] at q
      cases q
      rw [relabel_lookup,S.noe] at vis'
      rcases vis' with z | z | z <;> cases z
  ·obtain ⟨v,o,ho,hd⟩:=I3.cell y c (clS y c e)
   exact ⟨v,o,old c o ho,hd⟩
  ·show upd H s.heap.objs.size (.lst []) s3.heap.objs.size=none
   exact I3.hok.fresh (Nat.le_refl _)
  ·obtain ⟨e,n,ne,nf,d⟩:=I3.pin p hp
   refine ⟨old _ _ e,n,CneP p hp,fun z=>?_,d⟩
   rcases List.mem_cons.mp (I3.stkSub p.1 z) with q | q
   · exact ne q
   · exact nf q
  ·show (none::none::σ).length=N'.length
   rw [S.len,List.length_cons,List.length_cons,I3.len]
 have st4:tn 0 h₁:=T.keep 0 s.heap h₁ st fun b _ o e=>old0 b o e
 have loop:∀ s₄:Shared,s₄ = { s3 with heap:=h₁,toks:=s3.toks+([]:List (Str×Value)).length } ->
   codeAny (model X.prog X.w) X.A (.compLoop (.ListComp elt [⟨.Tuple [.Name x px,.Name y2 py] 0 pt,iter,[],0⟩] scope pos) 0 (.ref it) (.ref s.heap.objs.size) (compEnvC scope cl s3.heap.objs.size X.env)) (RR (.ref s.heap.objs.size) s3.heap.objs.size) s₄:=by
  rintro s₄ rfl
  refine codeAny_compLoop_any (fun n s'=>∃ i v0 v1 ys H',Inv (cxComp X N' scope cl s3.heap.objs.size s3 (upd H s.heap.objs.size (.lst [])) fp) pins (v0::v1::σ) H' s'∧tn i s'.heap∧(∀ b∈fp,H' b=none)∧W i n ys H') ?_ m0
   ⟨0,none,none,[],_,I4,st4,fun b hb=>by rw [upd_ne (fpD b hb)];exact (f2 b hb).1,w0⟩
  rintro n s5 ⟨i,v0,v1,ys,H5,I5,st5,fr5,w5⟩
  rcases turn i n ys H5 w5 with ⟨stop,qn⟩ | ⟨go,hz,N,hN,step⟩
  ·refine thn (T.done (cxComp X N' scope cl s3.heap.objs.size s3 (upd H s.heap.objs.size (.lst [])) fp) rfl rfl rfl hc i pins s5 (v0::v1::σ) H5 (fun _ _=>False) I5 (fpOk' fr5) st5 stop) fun r s6 ⟨hr,I6⟩=>?_
   subst hr
   have hch:∀ b∈fp,(b∈X.ex∨X.s₀.heap.objs.size<=b)∧b≠X.env.locals∧(∀ x c,X.env.cells.lookup x=some c->c≠b)∧∀ p∈X.pn++pins,p.1≠b:=fun b hb =>
     ⟨(f2 b hb).2.2.2.1,(f2 b hb).2.1,(f2 b hb).2.2.2.2.1,(f2 b hb).2.2.2.2.2⟩
   have I7:Inv X pins σ H5 s6:=I3.call' (ch:=fp) I6.os I6.base I6.hok I6.bare hch
   obtain ⟨m,hm,_⟩:=I6.loc
   exact hRR s.heap.objs.size s3.heap.objs.size s6 H5 I7 ⟨m,hm⟩ CneL CneC I6.free (Nat.le_trans I3.sz (Nat.le_refl _)) CneP qn
  ·refine thn (T.item (cxComp X N' scope cl s3.heap.objs.size s3 (upd H s.heap.objs.size (.lst [])) fp) rfl rfl rfl hc i pins s5 (v0::v1::σ) H5 (fun _ _=>False) I5 (fpOk' fr5) st5 go) fun r s6 ⟨u,hr,h6⟩=>?_
   subst hr
   refine thn h6 fun _ s7 ⟨y,H7,I7,r7,y7,st7,fr7⟩=>?_
   have I7':=I7.pinned (fpOk' fr7) (T.obj _ _ st7)
   obtain ⟨aT,u0,u1,e7,hT7,step7⟩:=step y H7 y7
   have I7c:Inv (cxComp X N' scope cl s3.heap.objs.size s3 (upd H s.heap.objs.size (.lst [])) fp) (pins++pinsAt fp s7.heap) (v0::v1::σ) H7 s7:=I7'
   refine thn ((show PG _ _ _ from pg_tup (X:=cxComp X N' scope cl s3.heap.objs.size s3 (upd H s.heap.objs.size (.lst [])) fp) (es:=[.Name x px,.Name y2 py]) (n:=2) hc
     (pgs_cons (pg_name (i:=0) S.nd S.hd (.inl (lookup_relabel_local S.var)) (.inr (lookup_relabel_local S.var))) (pgs_cons (pg_name (i:=1) S.nd S.hd2 (.inl (lookup_relabel_local S.var2)) (.inr (lookup_relabel_local S.var2))) pgs_nil)))
     _ s7 (v0::v1::σ) H7 y u (fun σ2 H2=>σ2=some u0::some u1::σ∧H2=H7) I7c r7 ⟨aT,[u0,u1],e7,hT7,rfl,u0,[u1],rfl,u1,[],rfl,rfl,rfl,rfl⟩) fun _ s8 ⟨σ8,H8,I8,e8,e8'⟩=>?_
   subst e8 e8'
   have I8':Inv (cxComp X N' scope cl s3.heap.objs.size s3 (upd H s.heap.objs.size (.lst [])) fp) (pins++pinsAt fp s7.heap) (some u0::some u1::σ) H8 s8:=I8
   refine thn (he cl s3.heap.objs.size s3 (upd H s.heap.objs.size (.lst [])) fp _ s8 (some u0::some u1::σ) _ N I8' step7) fun w s9 ⟨v,H9,I9,r9,q9⟩=>?_
   obtain ⟨hD9,m',hm,w9⟩:=hN v H9 q9
   refine thn (mt_append _ s9 (some u0::some u1::σ) H9 (.ref s.heap.objs.size) [v] (.ref s.heap.objs.size) [w] (fun z H10=>z = .non∧H10=upd H9 s.heap.objs.size (.lst (ys++[v]))) I9 rfl (.cons r9 .nil) ⟨s.heap.objs.size,ys,v,rfl,rfl,hD9,hz,rfl,rfl⟩) fun _ s10 ⟨z,H10,I10,_,ez,e10⟩=>?_
   subst e10
   refine ⟨m',hm,i+1,some u0,some u1,ys++[v],_,I10.unpinned,T.keep _ _ _ st7 fun b hb o e=>(I10.pin (b,o) (List.mem_append_right _ (List.mem_append_right _ (mem_pinsAt hb e)))).1,fun b hb=>?_,w9⟩
   obtain ⟨o,e,d⟩:=T.obj _ _ st7 b hb
   exact (I10.pin (b,o) (List.mem_append_right _ (List.mem_append_right _ (mem_pinsAt hb e)))).2.1
 exact codeAny_compStart_list (loop _ (by rw [<- hs3])) (T.self X.A 0 _ _ _ st4 (loop _ (by rw [<- hs3])))
end
theorem comp_zip {K:PySem.W.Frag}{a b:Addr}{xs ys:List V}{te:TE}{σ:St}{H:Hp}{Q:VK}(f:V->V->V)(hx:SqL K H a xs)(hy:SqL K H b ys)(he:xs.length=ys.length)(hn:xs.length<=sizeLine)
  (hs:∀ (i:Nat) (x y:V) (H':Hp),xs[i]?=some x->ys[i]?=some y->Same H H'->∀ N:V->Hp->Prop,(∀ H'',Same H' H''->N (f x y) H'')->te (some x::some y::σ) H' N)
  (hq:∀ D H',H D=none->Same H H'->H' D=some (.lst (List.zipWith f xs ys))->Q (.ref D) H'):compAt2 K te σ Q (Itz K a b) H:=by
 have hzl:(List.zipWith f xs ys).length=xs.length:=by rw [List.length_zipWith,<- he,Nat.min_self]
 intro D hD
 refine ⟨fun i m zs H2=>m=xs.length-i∧i<=xs.length∧zs=(List.zipWith f xs ys).take i∧Same H H2∧H2 D=some (.lst zs),⟨xs.length,rfl,Nat.zero_le _,rfl,fun b o e=>?_,upd_same⟩,?_⟩
 ·rw [upd_ne (ne_of_none e hD)]
  exact e
 ·rintro i m zs H2 ⟨rfl,hi,rfl,s2,hd⟩
  by_cases hlt:i<xs.length
  ·have h1:xs[i]?=some xs[i]:=List.getElem?_eq_getElem hlt
   have h2:ys[i]?=some (ys[i]'(by omega)):=List.getElem?_eq_getElem (by omega)
   refine .inr ⟨⟨xs,ys,_,_,s2.seq hx,s2.seq hy,h1,h2⟩,by rw [List.length_take];omega,fun v H'=>v=f xs[i] (ys[i]'(by omega))∧Same H2 H',fun v H' ⟨ev,hs'⟩=>⟨hs' D _ hd,xs.length-(i+1),by omega,rfl,hlt,?app,fun b o e=>?kp,upd_same⟩,fun y H' hy'=>?stp⟩
   case app=>rw [ev,List.take_add_one,List.getElem?_zipWith,h1,h2];rfl
   case kp =>
    rw [upd_ne (ne_of_none e hD)]
    exact hs' b o (s2 b o e)
   case stp =>
    obtain ⟨T,u,v,rfl,hT,rfl,y1,y3⟩:=hy'
    have t2:Same H2 (upd H2 T (.tup [u,v])):=fun b o e=>by rw [upd_ne (ne_of_none e hT)];exact e
    obtain rfl:=Option.some.inj ((y1 xs (s2.seq hx)).symm.trans h1)
    obtain rfl:=Option.some.inj ((y3 ys (s2.seq hy)).symm.trans h2)
    exact ⟨T,_,_,rfl,SqT.of upd_same,hs i _ _ _ h1 h2 (s2.trans t2) _ fun H'' h''=>⟨rfl,t2.trans h''⟩⟩
  ·have e:i=xs.length:=by omega
   subst e
   rw [List.take_of_length_le (by omega)] at hd
   exact .inl ⟨⟨xs,ys,s2.seq hx,s2.seq hy,.inl (Nat.le_refl _)⟩,hq D H2 hD s2 hd⟩
end L2
namespace L2
open PySem PySem.Spec PyProof.Rows
end L2
namespace L2
open PySem PySem.Spec PyProof.Rows
end L2
namespace L2
open PySem PySem.Spec PyProof.Rows
section
variable {X:Cx}{pins:List (Addr×Obj)}{σ:St}{H H':Hp}{s s':Shared}{a:Addr}{cls:Value}{E:Value->Shared->Prop}
end
section
variable {X:Cx}{pins:List (Addr×Obj)}{σ:St}{H H':Hp}{s s':Shared}{a:Addr}{cls:Value}
end
section
variable {P:Program}{w:World}{K:PySem.W.Frag}{mg:Str->Option Value}{base:Heap}{N:List Str}{qual:Str}{scope:Scope}{f:Addr}{cdv:Value}{A:Around}{outer:List Env}{s:Shared}{H:Hp}{E:XK}
end
section
variable {X:Cx}
end
end L2
namespace L2
open PySem PySem.Spec PyProof.Rows
section
variable {prog:Program}{w:World}{A:Around}{E:Value->Shared->Prop}{h:Heap}{g:Array GenState}{d:Drawn}{t:Nat}{os:OsState}
variable {nm q:Str}{Cl Ns:Addr}{bs tl:List Value}{hdct:Bool}{sn:List Str}{sub:List Value}{ab:Bool}{col:Option Bool}{dd:Option Addr}{k0 k1 k2 k3 k5:Option Value}
end
section
variable {M:Model}{A:Around}{E:Value->Shared->Prop}{s:Shared}{env:Env}
variable {nm q:Str}{Cl Ns:Addr}{bs tl:List Value}{hdct:Bool}{sn:List Str}{sub:List Value}{ab:Bool}{col:Option Bool}{dd:Option Addr}{k0 k1 k2 k3 k5:Option Value}{ni:String}
end
end L2
namespace L2
open PySem PySem.Spec PyProof.Rows
end L2
namespace L2
open PySem PySem.Spec PyProof.Rows
section
variable {X:Cx}
end
end L2
namespace L2
open PySem PySem.Spec PyProof.Rows PySem.Builtin PySem.Builtin.ObjectAttr
section
variable {prog:Program}{w:World}{A:Around}{E:Value->Shared->Prop}{K:PySem.W.Frag}{C f a x0:Addr}{F:Str}{v:Value}{s:Shared}
end
section
variable {X:Cx}
end
end L2
namespace L2
open PySem PySem.Spec PyProof.Rows
section
variable {X:Cx}{pins:List (Addr×Obj)}{σ:St}{H:Hp}{s:Shared}{a C x0:Addr}{E:Value->Shared->Prop}{od:Option Addr}
end
section
variable {X:Cx}
end
end L2
namespace L2
open PySem PyProof.Rows PySem.Spec
section
variable {X:Cx}
end
namespace EX
open PySem.W PySem.Calls PySem.Builtin PySem.Builtin.ObjectAttr PySem.Builtin.Getset_descriptor
variable {prog:Program}{w:World}{A:Around}{E:Value->Shared->Prop}{s:Shared}{K:PySem.W.Frag}{a C:Addr}
end EX
section
variable {X:Cx}
end
end L2
namespace L2
open PySem PySem.Spec PyProof.Rows
section
variable {X:Cx}
end
end L2
namespace L2
open PySem PyProof.Rows PySem.Spec
def Ite (K:PySem.W.Frag)(a:Addr):It :=
 ⟨fun i H=>∃ xs x,SqL K H a xs∧xs[i]?=some x,
  fun i H x H'=>∃ (T:Addr) (u:V),x = .ref T∧H T=none∧H'=upd H T (.tup [.int (i:Nat),u])∧∀ xs,SqL K H a xs->xs[i]?=some u,
  fun i H=>∃ xs,SqL K H a xs∧xs.length<=i⟩
theorem turn_enum {P:Program}{w:World}{K:PySem.W.Frag}{elts:List Expr}{x1}{pos:Pos}{a e it:Addr}(hne:e≠it) :
  Turn P w K (.Tuple elts x1 pos) (Ite K a) [e,it] e (fun i h=>(∃ old,IsEnum h e it i old)∧h.IsListIter it a i) where
 mem:=by simp
 obj:=fun i h st c hc=>by
  obtain ⟨⟨old,h1⟩,⟨o4,e4,c4,d4⟩⟩:=st
  simp only [List.mem_cons,List.not_mem_nil,or_false] at hc
  rcases hc with rfl | rfl
  ·exact ⟨_,h1,fun v z=>by cases z⟩
  ·exact ⟨_,e4,fun v z=>by rw [d4] at z;cases z⟩
 keep:=fun i h h' st k=>by
  obtain ⟨⟨old,h1⟩,h4⟩:=st
  exact ⟨⟨old,k e (by simp) _ h1⟩,h4.at fun o e=>k it (by simp) o e⟩
 item:=by
  intro X hP hw hK hc i pins s σ H E I hf st hg
  subst hP hw hK
  obtain ⟨xs,x,hq1,hx⟩:=hg
  obtain ⟨its,rv,p,hz⟩:=I.list hq1
  obtain ⟨u,hu,ru⟩:=rv.get hx
  obtain ⟨⟨old,h1⟩,h4⟩:=st
  refine wpAny_pyNext_enum_item h1 h4 p.isList (x:=u) (by simpa using hu) hne fun h' z1 z2 z3 z4 z5=>?_
  refine ⟨_,rfl,wpAny_letOwnedTupleGo_enum (s:={ s with heap:=h',toks:=s.toks+1 }) z1 fun h'' y1 y2=>?_⟩
  have hT:H s.heap.objs.size=none:=I.hok.fresh (Nat.le_refl _)
  have I1:Inv X pins σ (upd H s.heap.objs.size (.tup [.int (i:Nat),x])) { s with heap:=s.heap.push { cls:=.type "tuple",data:=.seq #[.int i s.toks,u] },toks:=s.toks+1 } :=
   I.laid (t':=s.toks+1) (fun b u e=>Heap.get?_push_of_some _ e) (Nat.le_refl _) ⟨(by show 2<=sizeLine;rw [sizeLine_eq];decide),[.int i s.toks,u],.cons ⟨_,rfl⟩ (.cons ru .nil),⟨_,Heap.get?_push_size _ rfl,rfl,_,rfl⟩⟩
  have nf:∀ c∈[e,it],c≠s.heap.objs.size:=fun c hc e=>by
   have lt:∃ o,s.heap.get? c=some o:=by
    obtain ⟨o4,e4,_⟩:=id h4
    simp only [List.mem_cons,List.not_mem_nil,or_false] at hc
    rcases hc with rfl | rfl
    ·exact ⟨_,h1⟩
    ·exact ⟨_,e4⟩
   obtain ⟨o,ho⟩:=lt
   have:=Heap.lt_size ho
   rw [e] at this
   exact Nat.lt_irrefl _ this
  have hf1:∀ c∈[e,it],FpOk X pins (upd H s.heap.objs.size (.tup [.int (i:Nat),x])) c:=fun c hc=>by
   obtain ⟨f0,f⟩:=hf c hc
   exact ⟨by rw [upd_ne (nf c hc)];exact f0,f⟩
  have I2:Inv X pins σ (upd H s.heap.objs.size (.tup [.int (i:Nat),x])) { s with heap:=h'',toks:=s.toks+1 } :=
   Inv.turnedL (s:={ s with heap:=s.heap.push { cls:=.type "tuple",data:=.seq #[.int i s.toks,u] },toks:=s.toks+1 }) (t':=s.toks+1) (ch:=[e,it]) I1 (fun b o hb e=>by
    simp only [List.mem_cons,List.not_mem_nil,or_false,not_or] at hb
    obtain ⟨b1,b2⟩:=hb
    refine (y2.2 b b1).trans ?_
    rcases Heap.get?_push_cases e with ⟨rfl,rfl⟩ | e
    ·exact z3
    ·exact z5 b o b1 b2 e) hf1
  refine ⟨.ref s.heap.objs.size,_,I2,rfl,⟨s.heap.objs.size,x,rfl,hT,rfl,fun zs hzs=>by rw [I.list_inj hzs hq1];exact hx⟩,⟨⟨_,by exact_mod_cast y1⟩,?_⟩,fun c hc=>(hf1 c hc).1⟩
  exact z2.at fun o e=>(y2.2 it (Ne.symm hne)).trans e
 done:=by
  intro X hP hw hK hc i pins s σ H E I hf st hg
  subst hP hw hK
  obtain ⟨xs,hq1,hl⟩:=hg
  obtain ⟨its,rv,p,hz⟩:=I.list hq1
  obtain ⟨⟨old,h1⟩,h4⟩:=st
  have l1:=rv.length
  refine wpAny_pyNext_enum_end (I.ok.hd hc) h1 h4 p.isList (by simp;omega) fun h' kk=>⟨rfl,?_⟩
  exact I.turnedL (t':=s.toks) (ch:=[e,it]) (fun b o hb e=>by
   simp only [List.mem_cons,List.not_mem_nil,or_false,not_or] at hb
   exact kk b o hb.2 e) hf
 self:=fun A i s Q E st h=>wpAny_pyIter_enum st.1.choose_spec h
section
variable {X:Cx}
def iEnum (K:PySem.W.Frag)(ta:TA):TI:=fun σ H R=>ta σ H fun xs H1=>∃ a:Addr,xs=[.ref a]∧(∃ us,SqL K H1 a us)∧R (Ite K a) H1
theorem pi_enum {a:Expr}{ta:TA}{p pos pos':Pos}{elts:List Expr}{x1}(hg:Gl X "enumerate")(hm:X.mg "enumerate" = none)(ha:PA X [a] ta)(hs:starEach [a] X.env=[(false,eval a X.env)]:=by rfl) :
  PI X (.Tuple elts x1 pos') (.Call (.Name "enumerate" p) [a] [] pos) (iEnum X.K ta):=by
 intro pins s σ H R I h
 refine Call_ (ld_blt I hg hm boot_enumerate (PyProof.Rows.callWith_type1 (thn (ha pos pins s σ H _ I h) fun us s1 ⟨vs,H1,I1,r1,q1⟩=>?_) (by rw [hs];rfl) (by rfl)))
 obtain ⟨l1,e,⟨us1,hq1⟩,q⟩:=q1
 subst e
 cases r1 with
 | cons r rr =>
  cases rr
  cases r
  obtain ⟨its,rv,p,hz⟩:=I1.list hq1
  refine call_enumerate_list p.isList fun h' z1 z2 z3 z4=>?_
  refine wpAny_pyIter_enum (s:={ s1 with heap:=h' }) z1 ?_
  have fr:∀ c,s1.heap.objs.size<=c->FpOk X pins H1 c:=fun c hc=>I1.fpOk hc (I1.hok.fresh hc)
  refine ⟨s1.heap.objs.size+1,[s1.heap.objs.size+1,s1.heap.objs.size],_,_,H1,rfl,I1.kept (t':=s1.toks) z4,turn_enum (Nat.succ_ne_self _),⟨⟨_,z1⟩,z2⟩,fun c hc=>fr c ?_,q⟩
  simp only [List.mem_cons,List.not_mem_nil,or_false] at hc
  rcases hc with rfl | rfl
  ·exact Nat.le_add_right _ _
  ·exact Nat.le_refl _
theorem for_enum {K:PySem.W.Frag}{a:Addr}{xs:List V}{g:TG}{tb:TS}{D:Ends}{σ:St}{H:Hp}(Pv:Nat->St->Hp->Prop)(h0:Pv 0 σ H)(hl:∀ i σ H,i<=xs.length->Pv i σ H->SqL K H a xs)
  (hs:∀ i x T σ H,xs[i]?=some x->H T=none->Pv i σ H->g (.ref T) σ (upd H T (.tup [.int (i:Nat),x])) fun σ2 H2=>tb { D with nx:=Pv (i+1),ct:=Pv (i+1),bk:=D.nx } σ2 H2) (hd:∀ σ H,Pv xs.length σ H->D.nx σ H) :
  ∃ W:Nat->Nat->St->Hp->Prop,(∃ m,W 0 m σ H)∧∀ i m σ H,W i m σ H ->
   ((Ite K a).stop i H∧D.nx σ H)∨((Ite K a).go i H∧∃ N:St->Hp->Prop,(∀ σ' H',N σ' H'->∃ m',m'<m∧W (i+1) m' σ' H')∧∀ x H',(Ite K a).yld i H x H'->g x σ H' fun σ2 H2=>tb { D with nx:=N,ct:=N,bk:=D.nx } σ2 H2):=by
 refine ⟨fun i m σ H=>m=xs.length-i∧i<=xs.length∧Pv i σ H,⟨xs.length,by simp,Nat.zero_le _,h0⟩,?_⟩
 rintro i m σ H ⟨rfl,hi,p⟩
 have q1:=hl i σ H hi p
 by_cases hlt:i<xs.length
 ·refine .inr ⟨⟨xs,xs[i],q1,by simp [hlt]⟩,Pv (i+1),fun σ' H' p'=>⟨xs.length-(i+1),by omega,rfl,hlt,p'⟩,fun x H' y=>?_⟩
  obtain ⟨T,u,rfl,hT,rfl,y1⟩:=y
  exact hs i u T σ _ (y1 xs q1) hT p
 ·have e:i=xs.length:=by omega
  subst e
  exact .inl ⟨⟨xs,q1,Nat.le_refl _⟩,hd σ H p⟩
end
end L2
namespace L2
open PySem PyProof.Rows PySem.Spec
def Bg (i:Int):Prop:=i.natAbs<2 ^ 8000
theorem Bg.bits {i:Int}(h:Bg i):Builtin.Int.intBits i<=8000:=by
 unfold Builtin.Int.intBits
 split
 ·exact Nat.zero_le _
 ·rename_i hn
  have h0:i.natAbs≠0:=fun z=>hn (by rw [Int.natAbs_eq_zero.mp z];rfl)
  exact (Nat.log2_lt h0).mpr h
theorem Bg.mulOk {i j:Int}(hi:Bg i)(hj:Bg j):IntMulOk i j:=by
 unfold IntMulOk Builtin.Int.intTooBig
 have h1:=hi.bits
 have h2:=hj.bits
 have h3:(16000:Int)<=bitsLine:=by decide +kernel
 have h4:decide (((Builtin.Int.intBits i:Nat):Int)+((Builtin.Int.intBits j:Nat):Int)>(bitsLine:Int))=false:=decide_eq_false (by omega)
 rw [h4,Bool.and_false]
 exact Bool.false_ne_true
theorem Bg.noPylong {i j:Int}(hj:Bg j):Builtin.divisionGoesByPylong i j=false:=by
 unfold Builtin.divisionGoesByPylong
 have:¬ ((if (j==0)=true then 0 else j.natAbs.log2/30+1)>300):=by
  split
  ·decide
  ·rename_i hn
   have h0:j.natAbs≠0:=fun z=>hn (by rw [Int.natAbs_eq_zero.mp z];rfl)
   have:=(Nat.log2_lt h0).mpr hj
   omega
 dsimp only
 rw [decide_eq_false this]
 rfl
section
variable {X:Cx}
theorem op_mulB:OpR X (binaryOp .Mult) (rI (fun i j=>Bg i∧Bg j) fun i j=>.int (i*j)):=opI fun _ _ _ _ _ _ _ hc q=>mul_int q (hc.1.mulOk hc.2)
theorem op_fdivB:OpR X (binaryOp .FloorDiv) (rI (fun _ j=>0<j∧Bg j) fun i j=>.int (i/j)):=opI fun i j _ _ _ _ _ hc q=>by
 have h1:(0:Int)<j:=hc.1
 exact floordiv_int (by omega) (by rw [Int.fdiv_eq_ediv_of_nonneg i (by omega)];exact q) (.inl hc.2.noPylong)
end
section
variable {X:Cx}{N':List Str}{scope:Scope}{x y2:Str}{px py py2 pt:Pos}{elt iter:Expr}{pos:Pos}{te:TE}{wi:TI}
theorem pe_comp2 (S:CompSc2 X.N N' X.env.scope scope x y2)(hc:X.calm=true)(hi:PI X (.Tuple [.Name x px,.Name y2 py2] 0 pt) iter wi)(he:∀ cl C s H fp,PE (cxComp X N' scope cl C s H fp) elt te)
  (hs:∀ x,foldedSetIterable iter X.env x=pure x:=by intro _;rfl):PE X (.ListComp elt [⟨.Tuple [.Name x px,.Name y2 py2] 0 pt,iter,[],0⟩] scope pos) (tComp2 X.K wi te):=by
 intro pins s σ H Q I h
 rw [eval_ListComp]
 have hfree:∀ z∈scope.names,z.2 = .free->∃ c,X.env.cells.lookup z.1=some c:=fun z hz hk=>by
  rcases S.ok z hz hk with q | q
  ·exact I.ok.has z.1 (.inl q)
  ·exact I.ok.has z.1 (.inr q)
 refine wpAny_comprehension_free (use:=none) rfl hs (clos_eq hfree) S.kind S.names (thn (hi pins s σ H _ I h) fun xv s1 h1=>thn h1 fun itv s2 h2=>?_)
 obtain ⟨it,fp,tn,J,H2,e,I2,T,st2,f2,hw⟩:=h2
 subst e
 obtain ⟨cl,hcl,hrun⟩:=comp_core2 (py:=py2) (pt:=pt) (elt:=elt) (iter:=iter) (pos:=pos) (px:=px) (E:=X.xe) (RR:=fun acc C=>compPost (model X.prog X.w) X.A X.xe none (EP X pins σ Q) acc C) S hc he I2 T st2 f2 hw (fun D C s' H' I' ⟨m,hm⟩ n1 n2 n3 n4 n5 q =>
  ⟨m,hm,fun h' hsb=>⟨.ref D,H',I'.turned (it:=C) (t':=s'.toks) (fun b o hb e=>(hsb.2 b hb).trans e) n3 n1 (.inr n4) n2 n5,rfl,q⟩⟩)
 have ecl:(pure (closOf X.env.cells scope.names []):Sem (List (Str×Addr)))=pure cl:=(clos_eq hfree).symm.trans hcl
 have ecl':closOf X.env.cells scope.names []=cl:=by
  injection ecl
 rw [ecl']
 exact hrun
end
end L2
namespace L2
open PySem PyProof.Rows PySem.Spec
section
variable {X:Cx}
end
end L2
namespace SR
open PySem PyProof.Rows PySem.Spec
section
variable {prog:Program}{w:World}{A:Around}{E:Value->Shared->Prop}{s:Shared}
end
end SR
namespace L2
open PySem PyProof.Rows PySem.Spec
section
variable {X:Cx}
end
end L2
namespace L2
open PySem PyProof.Rows PySem.Spec
section
variable {X:Cx}
end
end L2
namespace L2
open PySem PyProof.Rows PySem.Spec
section
variable {X:Cx}
end
end L2
namespace L2
open PySem PyProof.Rows PySem.Spec
section
variable {X:Cx}
end
end L2
namespace L2
open PySem PyProof.Rows PySem.Spec
section
variable {X:Cx}
end
def tupIs (K:PySem.W.Frag)(a:Addr)(ns:List Int):Bool :=
 match K.lookup a with
 | some o=>match o.cls,o.data with
  | .type "tuple",.seq its _=>decide (its.size<=1000)&&(its.toList.map fun v=>match v with | .int i _=>some i | _=>none)==ns.map some
  | _,_=>false
 | none=>false
theorem SqT.tupIs {K:PySem.W.Frag}{a:Addr}{ns:List Int}{H:Hp}(h:tupIs K a ns=true):SqT K H a (ns.map V.int):=by
 unfold L2.tupIs at h
 cases hk:K.lookup a with
 | none=>rw [hk] at h;cases h
 | some o =>
  rw [hk] at h
  dsimp only at h
  split at h
  ·rename_i its n hc hd
   rw [Bool.and_eq_true,decide_eq_true_iff,beq_iff_eq] at h
   refine .inr ⟨o,its,n,hk,hc,hd,Nat.le_trans h.1 (by rw [sizeLine_eq];decide),?_⟩
   have key:∀ (ns:List Int) (us:List Value),(us.map fun v=>match v with | .int i _=>some i | _=>none)=ns.map some->Vals (ns.map V.int) us:=fun ns=>by
    induction ns with
    | nil =>
     intro us hu
     cases us with
     | nil=>exact .nil
     | cons u us=>cases hu
    | cons i ns ih =>
     intro us hu
     cases us with
     | nil=>cases hu
     | cons u us =>
      rw [List.map_cons,List.map_cons] at hu
      obtain ⟨h1,h2⟩:=List.cons.inj hu
      refine .cons ?_ (ih us h2)
      split at h1
      ·rename_i j t
       obtain rfl:=Option.some.inj h1
       exact ⟨_,rfl⟩
      ·cases h1
   exact key ns _ h.2
  ·cases h
end L2
namespace L2
open PySem PyProof.Rows PySem.Spec
section
variable {X:Cx}
end
def RowsAt (K:PySem.W.Frag)(H:Hp)(as:List Addr)(M:List (List Int)):Prop:=as.length=M.length∧∀ (i:Nat) (a:Addr) (r:List Int),as[i]?=some a->M[i]?=some r->SqL K H a (r.map V.int)
section
variable {K:PySem.W.Frag}{H G:Hp}{as:List Addr}{M:List (List Int)}
theorem RowsAt.on (h:RowsAt K H as M)(s:Same H G):RowsAt K G as M:=⟨h.1,fun i a r e1 e2=>s.seq (h.2 i a r e1 e2)⟩
theorem RowsAt.at (h:RowsAt K H as M){i:Nat}{v:V}(hv:(as.map V.ref)[i]?=some v):∃ (a:Addr) (r:List Int),v = .ref a∧M[i]?=some r∧SqL K H a (r.map V.int):=by
 rw [List.getElem?_map] at hv
 obtain ⟨a,ha,rfl⟩:=Option.map_eq_some_iff.mp hv
 have hi:=(List.getElem?_eq_some_iff.mp ha).1
 obtain ⟨r,hr⟩:∃ r,M[i]?=some r:=⟨_,List.getElem?_eq_getElem (by rw [<- h.1];exact hi)⟩
 exact ⟨a,r,rfl,hr,h.2 i a r ha hr⟩
theorem RowsAt.sub (h:RowsAt K H as M)(f:Nat->Nat)(bs:List Addr)(N:List (List Int))(hl:bs.length=N.length)(h1:∀ i b,bs[i]?=some b->as[f i]?=some b)(h2:∀ i r,N[i]?=some r->M[f i]?=some r):RowsAt K H bs N:=⟨hl,fun i a r e1 e2=>h.2 (f i) a r (h1 i a e1) (h2 i r e2)⟩
theorem RowsAt.erase (h:RowsAt K H as M)(p:Nat):RowsAt K H (as.eraseIdx p) (M.eraseIdx p) :=
 h.sub (fun i=>if i<p then i else i+1) _ _ (by rw [List.length_eraseIdx,List.length_eraseIdx,h.1]) (fun i b e=>by rw [List.getElem?_eraseIdx] at e;split <;> simp_all) (fun i b e=>by rw [List.getElem?_eraseIdx] at e;split <;> simp_all)
end
theorem compR {K:PySem.W.Frag}{J:It}{as:List Addr}{M:List (List Int)}{te:TE}{σ:St}{H:Hp}{Q:VK}(g:List Int->List Int)(rd:Reads J H (as.map V.ref))(hR:RowsAt K H as M)(hn:as.length<=sizeLine)
  (he:∀ a r H',r∈M->SqL K H' a (r.map V.int)->Same H H'->∀ N:V->Hp->Prop,(∀ c H'',Same H' H''->(H' c=none)->H'' c=some (.lst ((g r).map V.int))->N (.ref c) H'')->te (some (.ref a)::σ) H' N)
  (hq:∀ D bs H',H D=none->Same H H'->H' D=some (.lst (bs.map V.ref))->(∀ b∈bs,b≠D)->RowsAt K H' bs (M.map g)->Q (.ref D) H'):compAt te σ Q J H:=by
 intro D hD
 refine ⟨fun i m ys H2=>m=as.length-i∧i<=as.length∧Same H H2∧H2 D=some (.lst ys)∧∃ bs:List Addr,ys=bs.map V.ref∧bs.length=i∧∀ (j:Nat) (b:Addr) (r:List Int),bs[j]?=some b->M[j]?=some r->b≠D∧H2 b=some (.lst ((g r).map V.int)),⟨as.length,rfl,Nat.zero_le _,fun b o e=>?_,upd_same,[],rfl,rfl,fun j b r e=>by simp at e⟩,?_⟩
 ·rw [upd_ne (ne_of_none e hD)]
  exact e
 ·rintro i m ys H2 ⟨rfl,hi,hs,hd,bs,rfl,hl,hb⟩
  by_cases hlt:i<as.length
  ·have hlt':i<(as.map V.ref).length:=by rw [List.length_map];exact hlt
   obtain ⟨a,r,ha,hr,_⟩:=hR.at (i:=i) (v:=(as.map V.ref)[i]) (List.getElem?_eq_getElem hlt')
   refine .inr ⟨rd.go i H2 hs hlt',by rw [List.length_map];omega,fun v H'=>Same H2 H'∧∃ c,v = .ref c∧c≠D∧H' c=some (.lst ((g r).map V.int)),fun v H' ⟨hs',c,ev,hcD,hc⟩=>⟨hs' D _ hd,as.length-(i+1),by omega,rfl,hlt,fun b o e=>?kp,upd_same,bs++[c],?app,by rw [List.length_append,hl];rfl,fun j b r' e1 e2=>?la⟩,fun y H' hy=>?stp⟩
   case app =>
    rw [ev,List.map_append]
    rfl
   case kp =>
    rw [upd_ne (ne_of_none e hD)]
    exact hs' b o (hs b o e)
   case la =>
    by_cases hj:j<bs.length
    ·rw [List.getElem?_append_left hj] at e1
     obtain ⟨h1,h2⟩:=hb j b r' e1 e2
     exact ⟨h1,by rw [upd_ne h1];exact hs' b _ h2⟩
    ·have hj':j=bs.length:=by
      have:=(List.getElem?_eq_some_iff.mp e1).1
      rw [List.length_append,List.length_singleton] at this
      omega
     subst hj'
     rw [List.getElem?_append_right (Nat.le_refl _),Nat.sub_self] at e1
     obtain rfl:c=b:=Option.some.inj e1
     rw [hl,hr] at e2
     obtain rfl:=Option.some.inj e2
     exact ⟨hcD,by rw [upd_ne hcD];exact hc⟩
   case stp =>
    obtain ⟨rfl,e2⟩:=rd.yl i H2 y H' hs hy
    obtain ⟨a2,r2,rfl,hr2,hs2⟩:=(hR.on hs).at e2
    rw [hr] at hr2
    obtain rfl:=Option.some.inj hr2
    exact he a2 r _ (List.mem_of_getElem? hr) hs2 hs _ fun c H'' s'' hc hc2=>⟨s'',c,rfl,fun z=>(by rw [z,hd] at hc;cases hc),hc2⟩
  ·have e:i=as.length:=by omega
   have hst:=rd.st H2 hs
   rw [List.length_map] at hst
   subst e
   have hlM:=hR.1
   refine .inl ⟨hst,hq D bs H2 hD hs hd (fun b hb'=>?_) ⟨by rw [hl,List.length_map,hlM],fun j b r e1 e2=>?_⟩⟩
   ·obtain ⟨j,hj⟩:=List.getElem?_of_mem hb'
    have hjl:=(List.getElem?_eq_some_iff.mp hj).1
    exact (hb j b _ hj (List.getElem?_eq_getElem (show j<M.length by omega))).1
   ·rw [List.getElem?_map] at e2
    obtain ⟨r',hr',rfl⟩:=Option.map_eq_some_iff.mp e2
    exact SqL.of (hb j b r' e1 hr').2
theorem compI {K:PySem.W.Frag}{J:It}{as:List Addr}{M:List (List Int)}{te:TE}{σ:St}{H:Hp}{Q:VK}(g:List Int->Int)(rd:Reads J H (as.map V.ref))(hR:RowsAt K H as M)(hn:as.length<=sizeLine)
  (he:∀ a r H',r∈M->SqL K H' a (r.map V.int)->Same H H'->∀ N:V->Hp->Prop,(∀ H'',Same H' H''->N (.int (g r)) H'')->te (some (.ref a)::σ) H' N)
  (hq:∀ D H',H D=none->Same H H'->H' D=some (.lst ((M.map g).map V.int))->Q (.ref D) H'):compAt te σ Q J H:=by
 intro D hD
 have hlM:=hR.1
 refine ⟨fun i m ys H2=>m=as.length-i∧i<=as.length∧Same H H2∧H2 D=some (.lst ys)∧ys=((M.take i).map g).map V.int,⟨as.length,rfl,Nat.zero_le _,fun b o e=>?_,upd_same,rfl⟩,?_⟩
 ·rw [upd_ne (ne_of_none e hD)]
  exact e
 ·rintro i m ys H2 ⟨rfl,hi,hs,hd,rfl⟩
  by_cases hlt:i<as.length
  ·have hlt':i<(as.map V.ref).length:=by rw [List.length_map];exact hlt
   have hr:M[i]?=some (M[i]'(by omega)):=List.getElem?_eq_getElem (by omega)
   refine .inr ⟨rd.go i H2 hs hlt',by rw [List.length_map,List.length_map,List.length_take];omega,fun v H'=>v = .int (g (M[i]'(by omega)))∧Same H2 H',fun v H' ⟨ev,hs'⟩=>⟨hs' D _ hd,as.length-(i+1),by omega,rfl,hlt,fun b o e=>?kp,upd_same,?app⟩,fun y H' hy=>?stp⟩
   case app =>
    rw [ev,List.take_add_one,hr,List.map_append,List.map_append]
    rfl
   case kp =>
    rw [upd_ne (ne_of_none e hD)]
    exact hs' b o (hs b o e)
   case stp =>
    obtain ⟨rfl,e2⟩:=rd.yl i H2 y H' hs hy
    obtain ⟨a2,r2,rfl,hr2,hs2⟩:=(hR.on hs).at e2
    obtain rfl:=Option.some.inj (hr2.symm.trans hr)
    exact he a2 _ _ (List.mem_of_getElem? hr) hs2 hs _ fun H'' s''=>⟨rfl,s''⟩
  ·have e:i=as.length:=by omega
   have hst:=rd.st H2 hs
   rw [List.length_map] at hst
   subst e
   rw [List.take_of_length_le (by omega)] at hd
   exact .inl ⟨hst,hq D H2 hD hs hd⟩
end L2
namespace L2
open PySem PySem.Spec PyProof.Rows
section
variable {X:Cx}{pins:List (Addr×Obj)}{σ:St}{H:Hp}{s:Shared}{a:Addr}{kvs:List (Key×V)}{k:Key}{A:Around}{E:Value->Shared->Prop}
theorem d_setdef {v:V}{u r:Value}{Q:Value->Shared->Prop}(I:Inv X pins σ H s)(e:H a=some (.dK kvs))(ry:RelV (kV k) u)(rv:RelV v r)(hz:kvs.length<sizeLine)
  (h1:∀ x,valV kvs k=some x->∀ w' s',Inv X pins σ H s'->RelV x w'->Q w' s') (h2:valV kvs k=none->∀ s',Inv X pins σ (upd H a (.dK (putK kvs k v))) s'->Q r s') :
  wpAny (model X.prog X.w) A (call (.builtin "dict.setdefault") [.ref a,u,r]) Q E s:=by
 obtain ⟨z,hd,vs,rel,dd⟩:=dk_of I.hok e
 refine call_meetsIn PySem.F.slot_dict_setdefault dd.typeIs PySem.F.entry_dict_setdefault (PySem.F.args_dict_setdefault_3 _ _ _) (kt_meets_setdefault (mixKind X.prog X.w) a (kV_is ry) hd r)
  ⟨vs,dd,by rw [<- rel.length];exact z,fun w' hw=>?_,fun hn h' dd' hs=>?_⟩
 ·cases l:valV kvs k with
  | none =>
   have:=RelO.none_of (o:=valueAt vs k) (by rw [<- l];exact rel.val k)
   rw [this] at hw
   cases hw
  | some x =>
   obtain ⟨w2,hw2,rw2⟩:=RelO.some_of (v:=x) (o:=valueAt vs k) (by rw [<- l];exact rel.val k)
   rw [hw] at hw2
   obtain rfl:=Option.some.inj hw2
   exact h1 x l w' _ (I.tok _) rw2
 ·have l:valV kvs k=none:=by
   cases l:valV kvs k with
   | none=>rfl
   | some x =>
    obtain ⟨w2,hw2,_⟩:=RelO.some_of (v:=x) (o:=valueAt vs k) (by rw [<- l];exact rel.val k)
    rw [hn] at hw2
    cases hw2
  have he:∃ q,h'.get? a=some q:=let ⟨q,_,_,hq,_⟩:=dd';⟨q,hq⟩
  have hl:(putK kvs k v).length<=sizeLine:=by have:=length_putK kvs k v;omega
  exact h2 l _ (d_write I (by rw [e];exact True.intro) hs he (dk_new hl hd (rel.put k rv) dd'))
end
def tDDef (td ty tx:TE):TE:=fun σ H Q=>td σ H fun x H1=>∃ a,x = .ref a∧(∃ kvs,H1 a=some (.dK kvs))∧ty σ H1 fun y H2=>tx σ H2 fun z H3=>∃ kvs k,H3 a=some (.dK kvs)∧y=kV k∧kvs.length<sizeLine∧(∀ v,valV kvs k=some v->Q v H3)∧(valV kvs k=none->Q z (upd H3 a (.dK (putK kvs k z))))
section
variable {X:Cx}{o e f:Expr}{apos cpos:Pos}{td ty tx:TE}
theorem pe_dsetdef (ho:PE X o td)(he:PE X e ty)(hf:PE X f tx)(m:M2 X o "setdefault" apos e f cpos):PE X (.Call (.Attribute o "setdefault" apos) [e,f] [] cpos) (tDDef td ty tx):=by
 intro pins s σ H Q I h
 refine wpAny_Call_method m.base m.few m.line PySem.F.plainAttrs_dict PySem.F.slot_dict_setdefault PySem.F.type_dict_setdefault (thn (ho pins s σ H _ I h) fun u s1 ⟨x,H1,I1,rx,a,ex,⟨kvs0,d⟩,q1⟩=>?_)
 subst ex
 obtain rfl:u=Value.ref a:=rx
 obtain ⟨z0,hd0,vs0,rel0,dd0⟩:=dk_of I1.hok d
 refine ⟨dd0.typeIs,fun b q=>?_,?_⟩
 ·cases q
  obtain ⟨ob,_,_,g1,g2,_⟩:=dd0
  exact ⟨ob,g1,g2.2.1⟩
 rw [m.trees]
 refine Calls.callWith_builtin rfl (Calls.evalArgs_plain (Calls.spliced_cons (thn (he pins s1 σ H1 _ I1 q1) fun iv s2 ⟨y,H2,I2,ry,q2⟩ =>
  Calls.spliced_cons (thn (hf pins s2 σ H2 _ I2 q2) fun fv s3 ⟨z,H3,I3,rz,kvs,k,ea,ey,hz,q3,q4⟩=>Calls.spliced_nil ?_))))
 subst ey
 exact d_setdef I3 ea ry rz hz (fun v l w' s4 I4 rw'=>⟨v,H3,I4,rw',q3 v l⟩) fun l s4 I4=>⟨z,_,I4,rz,q4 l⟩
end
end L2
namespace SS
open PySem PyProof.Rows L2
section
variable {prog:Program}{w:World}{A:Around}{E:Value->Shared->Prop}{s:Shared}
theorem init_dict {a:Addr}{vs:List (Key×Value)}{ep:Nat}{R:Result->Shared->Prop}(hh:A.handled=none)(hd:(a==sysModules)=false)(hD:Heap.DictAt (mixKind prog w) s.heap a vs ep)(hz:vs.length<=sizeLine)(S:Addr)(h1:S≠a)(hS:s.heap.get? S=some { cls:=.type "list",data:=.seq #[] })
  (hR:∀ s' acc' c',(∀ b o,b≠S->s.heap.get? b=some o->s'.heap.get? b=some o)->s'.gens=s.gens->s'.os=s.os->s'.heap.get? S=some { cls:=.type "list",dict:=none,data:=.seq acc' c',slots:=#[] }->ItemsOf (KeyAt vs) acc' vs.length->R (.ok (.ret .none)) s') :
  wpAny (model prog w) A.in1 (Builtin.«list.__init__» ⟨[.ref S,.ref a],[]⟩)
   (fun fin s'=>match fin with | .done f=>R (.ok f) s' | .again c'=>c'.quiet=true∧codeAny (model prog w) A c' R s') (fun e s'=>R (.error e) s') s:=by
 show wpAny _ _ (do let old <- Builtin.List.listItems (.ref S);Builtin.List.listUpdate (.ref S) (fun _=>#[]);letGo old.toList.reverse;Builtin.List.listExtendWith (.ref S) (.ref a) .none) _ _ s
 refine wpAny_bind ?_
 unfold Builtin.List.listItems
 refine wpAny_bind (wpAny_seqItems hS rfl (wpAny_pure ?_))
 show wpAny _ _ (updateSeq S (fun _=>#[]) >>= fun _=>letGo (#[]:Array Value).toList.reverse >>= fun _=>Builtin.List.listExtendWith (.ref S) (.ref a) .none) _ _ s
 refine wpAny_bind (wpAny_updateSeq hS rfl ?_)
 have hS₂:=Heap.get?_update_self (Obj.mapSeq (fun _=>(#[]:Array Value))) hS rfl
 have oth:∀ b o,b≠S->s.heap.get? b=some o->(s.heap.update S (Obj.mapSeq (fun _=>(#[]:Array Value)))).get? b=some o :=
  fun b o hb e=>(Heap.get?_update_other _ _ (Ne.symm hb)).trans e
 refine wpAny_bind (wpAny_letGo ?_)
 have hD2:Heap.DictAt (mixKind prog w) (s.heap.update S (Obj.mapSeq (fun _=>(#[]:Array Value)))) a vs ep:=by
  obtain ⟨o,es,g,r⟩:=hD
  exact ⟨o,es,oth a o (Ne.symm h1) g,r⟩
 refine dextend_ok (A:=A) (s:={ s with heap:=s.heap.update S (Obj.mapSeq (fun _=>(#[]:Array Value))) }) hh hd hD2 hz S .none h1 hS₂ fun s' acc' c' kp g1 g2 e1 e2=>?_
 exact hR s' acc' c' (fun b o hb e=>kp b o hb (oth b o hb e)) g1 g2 e1 e2
theorem call_list_dict {a:Addr}{vs:List (Key×Value)}{ep:Nat}{Q:Value->Shared->Prop}(hh:A.handled=none)(hd:(a==sysModules)=false)(hD:Heap.DictAt (mixKind prog w) s.heap a vs ep)(hz:vs.length<=sizeLine)
  (hQ:∀ (s':Shared) (acc:Array Value) (c':Nat),(∀ b o,s.heap.get? b=some o->s'.heap.get? b=some o)->s'.gens=s.gens->s'.os=s.os->s'.heap.get? s.heap.objs.size=some { cls:=.type "list",dict:=none,data:=.seq acc c',slots:=#[] }->ItemsOf (KeyAt vs) acc vs.length->Q (.ref s.heap.objs.size) s') :
  wpAny (model prog w) A (call (.type "list") [.ref a]) Q E s:=by
 have hlt:a<s.heap.objs.size:=by obtain ⟨o,es,g,r⟩:=hD;exact Heap.lt_size g
 refine callType_codes (Q₁:=fun obj s₁=>obj = .ref s.heap.objs.size∧s₁ = { s with heap:=s.heap.push { cls:=.type "list",data:=.seq #[] } }) F.called_list (F.typeCall_list_1 _) F.entry_list_init
  (code_list_new _ ⟨rfl,rfl⟩) fun obj s₁ h₁=>?_
 obtain ⟨rfl,rfl⟩:=h₁
 have hS:(s.heap.push { cls:=.type "list",data:=.seq #[] }).get? s.heap.objs.size=some { cls:=.type "list",data:=.seq #[] }:=Heap.get?_push_size _ rfl
 refine ⟨⟨_,hS,rfl⟩,F.args_list_init_2 _ _,init_dict (A:=A.in1) (s:={ s with heap:=s.heap.push { cls:=.type "list",data:=.seq #[] } }) hh hd (dat_push hD) hz _ (Nat.ne_of_gt hlt) hS fun s' acc' c' kp g1 g2 e1 e2=>?_⟩
 exact ⟨rfl,hQ s' acc' c' (fun b o e=>kp b o (Nat.ne_of_lt (Heap.lt_size e)) (Heap.get?_push_of_some _ e)) g1 g2 e1 e2⟩
end
end SS
namespace L2
open PySem PyProof.Rows
section
variable {X:Cx}
theorem strs_vals:∀ {us:List Value} {ls:List (List Nat)},StrsAre us (ls.map tx)->Vals (ls.map T) us
 | [],[],_=>.nil
 | u::us,l::ls,h=>by
  cases h with
  | cons x t r=>exact .cons ⟨_,rfl⟩ (strs_vals r)
theorem call_listD (hc:X.calm=true):CallR X (.type "list") (fun xs H Q=>∃ (p:Addr) (ls:List (List Nat)) (kvs:List (Key×V)),xs=[.ref p]∧H p=some (.dK kvs)∧kvs.map (·.1)=ls.map (fun t=>Sum.inr (tx t))∧∀ (D:Addr),H D=none->Q (.ref D) (upd H D (.lst (ls.map T)))):=by
 intro pins s σ H xs us Q I r h
 obtain ⟨p,ls,kvs,rfl,hq,hk,q⟩:=h
 obtain ⟨u,rfl,ru⟩:=vals1 r
 cases ru
 obtain ⟨z,hd,vs,rel,dd⟩:=dk_of I.hok hq
 obtain ⟨o,es,ep,rest⟩:=dd
 have hl:ls.length=kvs.length:=by have:=congrArg List.length hk;simpa using this.symm
 refine SS.call_list_dict (vs:=vs) (ep:=ep) (I.ok.hd hc) hd ⟨o,es,rest⟩ (by rw [<- rel.length];exact z) fun s' acc c' kp g1 g2 e1 e2=>?_
 have hv:=strs_vals (keys_strs hk rel e2)
 have hg:AllBare s'.gens:=by rw [g1];exact I.bare
 have hf:H s.heap.objs.size=none:=I.hok.fresh (Nat.le_refl _)
 have new:ObjOk X.prog X.w (upd H s.heap.objs.size (.lst (ls.map T))) s'.heap s.heap.objs.size (.lst (ls.map T)):=⟨by rw [List.length_map,hl];exact z,acc.toList,c',hv,by simpa using e1⟩
 exact ⟨.ref s.heap.objs.size,_,I.call' (ch:=[]) g2 (Un.laid kp (Nat.le_refl _) hf) (I.hok.laid kp (Nat.le_refl _) new) hg (fun _ z=>nomatch z),rfl,q _ hf⟩
end
end L2
namespace L2
open PySem PyProof.Rows
theorem compVR {K:PySem.W.Frag}{J:It}{vs:List V}{te:TE}{σ:St}{H:Hp}{Q:VK}(g:V->List Int)(rd:Reads J H vs)(hn:vs.length<=sizeLine)
  (he:∀ v H',v∈vs->Same H H'->∀ N:V->Hp->Prop,(∀ c H'',Same H' H''->H' c=none->H'' c=some (.lst ((g v).map V.int))->N (.ref c) H'')->te (some v::σ) H' N)
  (hq:∀ D bs H',H D=none->Same H H'->H' D=some (.lst (bs.map V.ref))->(∀ b∈bs,b≠D)->RowsAt K H' bs (vs.map g)->Q (.ref D) H'):compAt te σ Q J H:=by
 intro D hD
 refine ⟨fun i m ys H2=>m=vs.length-i∧i<=vs.length∧Same H H2∧H2 D=some (.lst ys)∧∃ bs:List Addr,ys=bs.map V.ref∧bs.length=i∧∀ (j:Nat) (b:Addr) (v:V),bs[j]?=some b->vs[j]?=some v->b≠D∧H2 b=some (.lst ((g v).map V.int)),⟨vs.length,rfl,Nat.zero_le _,fun b o e=>?_,upd_same,[],rfl,rfl,fun j b r e=>by simp at e⟩,?_⟩
 ·rw [upd_ne (ne_of_none e hD)]
  exact e
 ·rintro i m ys H2 ⟨rfl,hi,hs,hd,bs,rfl,hl,hb⟩
  by_cases hlt:i<vs.length
  ·obtain ⟨r,hr⟩:∃ r,vs[i]?=some r:=⟨_,List.getElem?_eq_getElem hlt⟩
   refine .inr ⟨rd.go i H2 hs hlt,by rw [List.length_map];omega,fun v H'=>Same H2 H'∧∃ c,v = .ref c∧c≠D∧H' c=some (.lst ((g r).map V.int)),fun v H' ⟨hs',c,ev,hcD,hc⟩=>⟨hs' D _ hd,vs.length-(i+1),by omega,rfl,hlt,fun b o e=>?kp,upd_same,bs++[c],?app,by rw [List.length_append,hl];rfl,fun j b r' e1 e2=>?la⟩,fun y H' hy=>?stp⟩
   case app =>
    rw [ev,List.map_append]
    rfl
   case kp =>
    rw [upd_ne (ne_of_none e hD)]
    exact hs' b o (hs b o e)
   case la =>
    by_cases hj:j<bs.length
    ·rw [List.getElem?_append_left hj] at e1
     obtain ⟨h1,h2⟩:=hb j b r' e1 e2
     exact ⟨h1,by rw [upd_ne h1];exact hs' b _ h2⟩
    ·have hj':j=bs.length:=by
      have:=(List.getElem?_eq_some_iff.mp e1).1
      rw [List.length_append,List.length_singleton] at this
      omega
     subst hj'
     rw [List.getElem?_append_right (Nat.le_refl _),Nat.sub_self] at e1
     obtain rfl:c=b:=Option.some.inj e1
     rw [hl,hr] at e2
     obtain rfl:=Option.some.inj e2
     exact ⟨hcD,by rw [upd_ne hcD];exact hc⟩
   case stp =>
    obtain ⟨rfl,e2⟩:=rd.yl i H2 y H' hs hy
    rw [hr] at e2
    obtain rfl:=Option.some.inj e2
    exact he r _ (List.mem_of_getElem? hr) hs _ fun c H'' s'' hc hc2=>⟨s'',c,rfl,fun z=>(by rw [z,hd] at hc;cases hc),hc2⟩
  ·have e:i=vs.length:=by omega
   have hst:=rd.st H2 hs
   subst e
   refine .inl ⟨hst,hq D bs H2 hD hs hd (fun b hb'=>?_) ⟨by rw [hl,List.length_map],fun j b r e1 e2=>?_⟩⟩
   ·obtain ⟨j,hj⟩:=List.getElem?_of_mem hb'
    have hjl:=(List.getElem?_eq_some_iff.mp hj).1
    exact (hb j b _ hj (List.getElem?_eq_getElem (show j<vs.length by omega))).1
   ·rw [List.getElem?_map] at e2
    obtain ⟨r',hr',rfl⟩:=Option.map_eq_some_iff.mp e2
    exact SqL.of (hb j b r' e1 hr').2
end L2
namespace L2
open PySem PyProof.Rows
section
variable {X:Cx}{pins:List (Addr×Obj)}{σ:List (Option V)}{H H':Hp}{s:Shared}
theorem Inv.reH (I:Inv X pins σ H s)(free:∀ b,H b=none->H' b=none)(tups:∀ b xs,X.H₀ b=some (.tup xs)->H' b=some (.tup xs))(frzs:∀ b o u,X.H₀ b=some (.frz o u)->H' b=some (.frz o u))(tbls:∀ b ps,X.H₀ b=some (.tbl ps)->∃ more,H' b=some (.tbl (ps++more)))
  (hok:HOk X.prog X.w H' s.heap):Inv X pins σ H' s :=
 ⟨I.ok,I.os,I.bare,⟨I.base.keep,I.base.slot,fun b o e n hx=>free b (I.base.free b o e n hx),I.base.there,tups,frzs,tbls⟩,I.loc,I.cell,free _ I.free,fun x c e=>free _ (I.freeC x c e),fun p hp=>⟨(I.pin p hp).1,free _ (I.pin p hp).2.1,(I.pin p hp).2.2⟩,hok,I.len⟩
theorem hok_upd {P:Program}{w:World}{h:Heap}{a:Addr}{u v:HO}(x:HOk P w H h)(ha:H a=some u)(h1:∀ y,u≠.own y)(h2:∀ xs,u≠.tup xs)(ok:ObjOk P w H h a v):HOk P w (upd H a v) h:=by
 have ho:∀ y b,H b=some (.own y)->upd H a v b=some (.own y):=fun y b e=>by
  rw [upd_ne (fun z=>by rw [z,ha] at e;exact h1 y (Option.some.inj e))];exact e
 have ht:∀ b xs,H b=some (.tup xs)->upd H a v b=some (.tup xs):=fun b xs e=>by
  rw [upd_ne (fun z=>by rw [z,ha] at e;exact h2 xs (Option.some.inj e))];exact e
 intro b o e
 by_cases c:b=a
 ·subst c
  rw [upd_same] at e
  cases e
  exact ok.stay (fun _ _ _ e=>e) (fun c=>ho b c) ht
 ·rw [upd_ne c] at e
  exact (x b o e).stay (fun _ _ _ e=>e) (fun c=>ho b c) ht
theorem Inv.freeze {a:Addr}{kvs:List (Key×V)}(I:Inv X pins σ H s)(e:H a=some (.dK kvs)):∃ o,s.heap.get? a=some o∧Inv X pins σ (upd H a (.frz o (.dK kvs))) s:=by
 have hx:ObjOk X.prog X.w H s.heap a (.dK kvs):=I.hok a _ e
 obtain ⟨o,ho⟩:∃ o,s.heap.get? a=some o:=by
  obtain ⟨_,_,_,_,o,_,_,q,_⟩:=hx
  exact ⟨o,q⟩
 have ne:∀ b u,X.H₀ b=some u->H b=some u->(∀ k,u≠.dK k)->upd H a (.frz o (.dK kvs)) b=some u:=fun b u _ q n=>by
  rw [upd_ne (fun z=>by rw [z,e] at q;exact n _ (Option.some.inj q).symm)];exact q
 refine ⟨o,ho,I.reH (fun b n=>?_) (fun b xs q=>ne b _ q (I.base.tups b xs q) (fun k z=>nomatch z)) (fun b o' u q=>ne b _ q (I.base.frzs b o' u q) (fun k z=>nomatch z)) (fun b ps q=>?_) (hok_upd I.hok e (fun y z=>nomatch z) (fun xs z=>nomatch z) ⟨ho,hx⟩)⟩
 ·rw [upd_ne (fun z=>by rw [z,e] at n;cases n)];exact n
 ·obtain ⟨m,q'⟩:=I.base.tbls b ps q
  exact ⟨m,by rw [upd_ne (fun z=>by rw [z,e] at q';cases q')];exact q'⟩
theorem Inv.thaw {a:Addr}{o:Obj}{kvs:List (Key×V)}(I:Inv X pins σ H s)(e:H a=some (.frz o (.dK kvs)))(h0:X.H₀ a=none):Inv X pins σ (upd H a (.dK kvs)) s:=by
 obtain ⟨_,hx⟩:ObjOk X.prog X.w H s.heap a (.frz o (.dK kvs)):=I.hok a _ e
 refine I.reH (fun b n=>?_) (fun b xs q=>?_) (fun b o' u q=>?_) (fun b ps q=>?_) (hok_upd I.hok e (fun y z=>nomatch z) (fun xs z=>nomatch z) hx)
 ·rw [upd_ne (fun z=>by rw [z,e] at n;cases n)];exact n
 ·rw [upd_ne (fun z=>by rw [z,h0] at q;cases q)];exact I.base.tups b xs q
 ·rw [upd_ne (fun z=>by rw [z,h0] at q;cases q)];exact I.base.frzs b o' u q
 ·rw [upd_ne (fun z=>by rw [z,h0] at q;cases q)];exact I.base.tbls b ps q
end
def Itk (a:Addr)(o:Obj)(kvs:List (Key×V)):It :=
 ⟨fun i H=>H a=some (.frz o (.dK kvs))∧i<kvs.length,fun i H x H'=>H'=H∧∃ kv,kvs[i]?=some kv∧x=kV kv.1,fun i H=>H a=some (.frz o (.dK kvs))∧kvs.length<=i⟩
theorem kv_of_is {P:Program}{w:World}{k:Key}{u:Value}(h:(mixKind P w).is k u=true):RelV (kV k) u:=by
 cases k with
 | inl i =>
  have h:Value.isInt i u=true:=h
  have:∃ t,u = .int i t:=by cases u <;> simp_all [Value.isInt]
  obtain ⟨t,rfl⟩:=this
  exact ⟨t,rfl⟩
 | inr x =>
  obtain ⟨t,rfl⟩:=Value.isStrOf_shape (show Value.isStrOf x u=true from h)
  exact ⟨t,rfl⟩
theorem turn_dict {P:Program}{w:World}{K:PySem.W.Frag}{tg:Expr}{a it:Addr}{o:Obj}{kvs:List (Key×V)}{vs:List (Key×Value)}{ep:Nat}(hK:KV kvs vs)(hd:∀ h:Heap,h.get? a=some o->h.DictAt (mixKind P w) a vs ep) :
  Turn P w K tg (Itk a o kvs) [it] it (fun i h=>h.IsKeyIter it a i vs.length ep) where
 mem:=by simp
 obj:=fun i h st b hb=>by
  have e:b=it:=by simpa using hb
  subst e
  obtain ⟨o,e,c,d⟩:=st
  exact ⟨o,e,fun v z=>by rw [d] at z;cases z⟩
 keep:=fun i h h' st k=>st.at fun o e=>k it (by simp) o e
 item:=by
  intro X hP hw hK' hc i pins s σ H E I hf st hg
  subst hP hw hK'
  obtain ⟨ha,hi⟩:=hg
  obtain ⟨ho,_⟩:ObjOk X.prog X.w H s.heap a (.frz o (.dK kvs)):=I.hok a _ ha
  have hl:=hK.length
  obtain ⟨f0,f1,f2,f3,f4,f5⟩:=hf it (by simp)
  have hvi:vs[i]?=some vs[i]:=List.getElem?_eq_getElem (by omega)
  have hki:kvs[i]?=some kvs[i]:=List.getElem?_eq_getElem hi
  have hkk:kvs[i].1=vs[i].1:=by
   have:=hK.keys
   have h1:(kvs.map (·.1))[i]?=(vs.map (·.1))[i]?:=by rw [this]
   rw [List.getElem?_map,List.getElem?_map,hki,hvi] at h1
   exact Option.some.inj h1
  refine wpAny_pyNext_dict_item (k:=vs[i].1) (v:=vs[i].2) st (hd _ ho) hvi fun key h' hkey st' sb=>?_
  have I1:Inv X pins σ H { s with heap:=h' }:=I.turned (t':=s.toks) (fun b o hb e=>(sb.2 b hb).trans e) f0 f1 f3 f4 f5
  exact ⟨key,rfl,letGo_keyiter (s':={ s with heap:=h' }) st' ⟨kV kvs[i].1,H,I1,by rw [hkk];exact kv_of_is hkey,⟨rfl,_,hki,rfl⟩,st',fun b hb=>(hf b hb).1⟩⟩
 done:=by
  intro X hP hw hK' hc i pins s σ H E I hf st hg
  subst hP hw hK'
  obtain ⟨ha,hi⟩:=hg
  obtain ⟨ho,_⟩:ObjOk X.prog X.w H s.heap a (.frz o (.dK kvs)):=I.hok a _ ha
  have hl:=hK.length
  obtain ⟨f0,f1,f2,f3,f4,f5⟩:=hf it (by simp)
  exact wpAny_pyNext_dict_end (I.ok.hd hc) st (hd _ ho) (List.getElem?_eq_none (by omega)) fun h' eb=>⟨rfl,I.turned (t':=s.toks) (fun b o hb e=>eb b o hb e) f0 f1 f3 f4 f5⟩
 self:=fun _ _ _ _ _ st h=>wpAny_pyIter_keyiter st h
def iDict (td:TE):TI:=fun σ H R=>td σ H fun x H1=>∃ a kvs,x = .ref a∧H1 a=some (.dK kvs)∧∀ o,R (Itk a o kvs) (upd H1 a (.frz o (.dK kvs)))
section
variable {X:Cx}{tg:Expr}
theorem pi_dict {l:Expr}{tl:TE}(hl:PE X l tl):PI X tg l (iDict tl):=by
 intro pins s σ H R I h
 refine thn (hl pins s σ H _ I h) fun v s1 ⟨x,H1,I1,r1,q1⟩=>?_
 obtain ⟨a,kvs,e,ha,q⟩:=q1
 subst e
 cases r1
 obtain ⟨z,hsm,vs,rel,dd⟩:=dk_of I1.hok ha
 obtain ⟨ep,dat⟩:=dd.dictAt
 obtain ⟨o,ho,I2⟩:=I1.freeze ha
 refine wpAny_pyIter_dict hsm dat ?_
 refine ⟨s1.heap.objs.size,[s1.heap.objs.size],_,_,_,rfl,I2.kept (t':=s1.toks) fun b o e=>Heap.get?_push_of_some _ e,turn_dict rel (fun h e=>dat.at' fun o' e'=>by rw [ho] at e';rw [<- e'];exact e),⟨_,Heap.get?_push_size _ rfl,rfl,rfl⟩,fun b hb=>?_,q o⟩
 have e:b=s1.heap.objs.size:=by simpa using hb
 subst e
 exact I2.fpOk (Nat.le_refl _) (I2.hok.fresh (Nat.le_refl _))
def tThaw (H₀:Hp)(t:TE):TE:=fun σ H Q=>t σ H fun v H'=>∃ a o kvs,H' a=some (.frz o (.dK kvs))∧H₀ a=none∧Q v (upd H' a (.dK kvs))
theorem pe_thaw {e:Expr}{t:TE}(h:PE X e t):PE X e (tThaw X.H₀ t):=by
 intro pins s σ H Q I hw
 refine thn (h pins s σ H _ I hw) fun v s1 ⟨x,H1,I1,r1,a,o,kvs,ha,h0,q⟩=>?_
 exact ⟨x,_,I1.thaw ha h0,r1,q⟩
end
end L2
namespace L2
open PySem PyProof.Rows
section
variable {X:Cx}{o:Expr}{td:TE}{apos cpos:Pos}
end
end L2
namespace L2
open PySem PyProof.Rows PySem.Spec
section
variable {X:Cx}
end
end L2
namespace L2
open PySem PyProof.Rows
section
variable {X:Cx}{pins:List (Addr×Obj)}{σ:St}{H:Hp}{s:Shared}
end
section
variable {X:Cx}
end
theorem for_dict {a:Addr}{o:Obj}{kvs:List (Key×V)}{g:TG}{tb:TS}{D:Ends}{σ:St}{H:Hp}(Pv:Nat->St->Hp->Prop)(h0:Pv 0 σ H)(hl:∀ i σ H,i<=kvs.length->Pv i σ H->H a=some (.frz o (.dK kvs)))
  (hs:∀ i kv σ H,kvs[i]?=some kv->Pv i σ H->g (kV kv.1) σ H fun σ2 H2=>tb { D with nx:=Pv (i+1),ct:=Pv (i+1),bk:=D.nx } σ2 H2) (hd:∀ σ H,Pv kvs.length σ H->D.nx σ H) :
  ∃ W:Nat->Nat->St->Hp->Prop,(∃ m,W 0 m σ H)∧∀ i m σ H,W i m σ H ->
   ((Itk a o kvs).stop i H∧D.nx σ H)∨((Itk a o kvs).go i H∧∃ N:St->Hp->Prop,(∀ σ' H',N σ' H'->∃ m',m'<m∧W (i+1) m' σ' H')∧∀ x H',(Itk a o kvs).yld i H x H'->g x σ H' fun σ2 H2=>tb { D with nx:=N,ct:=N,bk:=D.nx } σ2 H2):=by
 refine ⟨fun i m σ H=>m=kvs.length-i∧i<=kvs.length∧Pv i σ H,⟨kvs.length,by simp,Nat.zero_le _,h0⟩,?_⟩
 rintro i m σ H ⟨rfl,hi,p⟩
 have hA:=hl i σ H hi p
 by_cases hlt:i<kvs.length
 ·refine .inr ⟨⟨hA,hlt⟩,Pv (i+1),fun σ' H' p'=>⟨kvs.length-(i+1),by omega,rfl,hlt,p'⟩,fun x H' hy=>?_⟩
  obtain ⟨rfl,kv,e,rfl⟩:=hy
  exact hs i kv σ _ e p
 ·have e:i=kvs.length:=by omega
  subst e
  exact .inl ⟨⟨hA,Nat.le_refl _⟩,hd σ H p⟩
end L2
namespace L2
open PySem PySem.Spec PyProof.Rows
section
variable {M:Model}{A:Around}{E:Value->Shared->Prop}{s:Shared}
end
section
variable {X:Cx}{N':List Str}{scope:Scope}{x:Str}{px:Pos}{elt iter:Expr}{cds:List Expr}{pos:Pos}{te:TE}{tc:TT}{wi:TI}
end
end L2
namespace L2
open PySem PySem.Spec PyProof.Rows
section
variable {X:Cx}{N':List Str}{scope:Scope}{x:Str}{px:Pos}{elt iter:Expr}{cds:List Expr}{pos:Pos}{te:TE}{tc:TT}{wi:TI}
end
end L2
namespace L2
open PySem PyProof.Rows PySem.Spec
section
variable {X:Cx}
end
section
variable {X:Cx}{N':List Str}{scope:Scope}{x:Str}{px:Pos}{elt iter cd:Expr}{pos:Pos}{te:TE}{tc:TT}{wi:TI}
end
end L2
namespace L2
open PySem PyProof.Rows
def SqA (K:PySem.W.Frag)(H:Hp)(a:Addr)(xs:List V):Prop:=SqL K H a xs∨SqT K H a xs
theorem SqA.on {K:PySem.W.Frag}{H H':Hp}{a:Addr}{xs:List V}(h:SqA K H a xs)(s:Same H H'):SqA K H' a xs:=h.elim (fun h=>.inl (s.seq h)) fun h=>.inr (tupOn s h)
def iSq (K:PySem.W.Frag)(tl:TE):TI:=fun σ H R=>tl σ H fun x H1=>∃ a xs H0,x = .ref a∧SqA K H0 a xs∧Same H0 H1∧∀ J,Reads J H0 xs->R J H1
section
variable {X:Cx}{tg:Expr}
theorem pi_seq {l:Expr}{tl:TE}(hl:PE X l tl):PI X tg l (iSq X.K tl):=by
 intro pins s σ H R I h
 refine thn (hl pins s σ H _ I h) fun v s1 ⟨x,H1,I1,r1,q1⟩=>?_
 obtain ⟨a,xs,H0,e,hq0 | hq0,s0,q0⟩:=q1
 ·have hq:=s0.seq hq0
  have q:=q0 _ (reads_list hq0)
  subst e
  cases r1
  obtain ⟨its,rv,p,hz⟩:=I1.list hq
  refine wpAny_pyIter_list p.isList ?_
  refine ⟨s1.heap.objs.size,[s1.heap.objs.size],_,_,H1,rfl,I1.kept (t':=s1.toks) fun b o e=>Heap.get?_push_of_some _ e,turn_list a _,⟨_,Heap.get?_push_size _ rfl,rfl,rfl⟩,fun b hb=>?_,q⟩
  have e:b=s1.heap.objs.size:=by simpa using hb
  subst e
  exact I1.fpOk (Nat.le_refl _) (I1.hok.fresh (Nat.le_refl _))
 ·have hq:=tupOn s0 hq0
  have q:=q0 _ (reads_tup hq0)
  subst e
  cases r1
  obtain ⟨its,rv,p,hz⟩:=I1.tuple hq
  refine wpAny_pyIter_tuple (show s1.heap.IsTuple a its.toArray from p) ?_
  refine ⟨s1.heap.objs.size,[s1.heap.objs.size],_,_,H1,rfl,I1.kept (t':=s1.toks) fun b o e=>Heap.get?_push_of_some _ e,turn_tuple a _,⟨_,Heap.get?_push_size _ rfl,rfl,rfl⟩,fun b hb=>?_,q⟩
  have e:b=s1.heap.objs.size:=by simpa using hb
  subst e
  exact I1.fpOk (Nat.le_refl _) (I1.hok.fresh (Nat.le_refl _))
theorem pi_seqK (K:PySem.W.Frag)(hK:X.K=K){l:Expr}{tl:TE}(hl:PE X l tl):PI X tg l (iSq K tl):=by
 subst hK
 exact pi_seq hl
end
theorem for_reads {J:It}{H0:Hp}{vs:List V}{g:TG}{tb:TS}{D:Ends}{σ:St}{H:Hp}(rd:Reads J H0 vs)(Pv:Nat->St->Hp->Prop)(h0:Pv 0 σ H)(hl:∀ i σ H,i<=vs.length->Pv i σ H->Same H0 H)
  (hs:∀ i x σ H,vs[i]?=some x->Pv i σ H->g x σ H fun σ2 H2=>tb { D with nx:=Pv (i+1),ct:=Pv (i+1),bk:=D.nx } σ2 H2) (hd:∀ σ H,Pv vs.length σ H->D.nx σ H) :
  ∃ W:Nat->Nat->St->Hp->Prop,(∃ m,W 0 m σ H)∧∀ i m σ H,W i m σ H ->
   (J.stop i H∧D.nx σ H)∨(J.go i H∧∃ N:St->Hp->Prop,(∀ σ' H',N σ' H'->∃ m',m'<m∧W (i+1) m' σ' H')∧∀ x H',J.yld i H x H'->g x σ H' fun σ2 H2=>tb { D with nx:=N,ct:=N,bk:=D.nx } σ2 H2):=by
 refine ⟨fun i m σ H=>m=vs.length-i∧i<=vs.length∧Pv i σ H,⟨vs.length,by simp,Nat.zero_le _,h0⟩,?_⟩
 rintro i m σ H ⟨rfl,hi,p⟩
 have hA:=hl i σ H hi p
 by_cases hlt:i<vs.length
 ·refine .inr ⟨rd.go i H hA hlt,Pv (i+1),fun σ' H' p'=>⟨vs.length-(i+1),by omega,rfl,hlt,p'⟩,fun x H' hy=>?_⟩
  obtain ⟨rfl,e⟩:=rd.yl i H x H' hA hy
  exact hs i x σ _ e p
 ·have e:i=vs.length:=by omega
  subst e
  exact .inl ⟨rd.st H hA,hd σ H p⟩
end L2
namespace L2
open PySem PyProof.Rows
end L2
namespace L2
open PySem PyProof.Rows PySem.Spec
section
variable {X:Cx}
end
end L2
namespace SN
open PySem PyProof.Rows SS
def keyV:Value->Int
 | .int x _=>x
 | _=>0
def El (w:World)(e:Int×Value):Prop:=e.1=hashInt (keyV e.2)∧∃ t,e.2 = .int (keyV e.2) t
def Els (w:World)(es:List (Int×Value))(ms:List Int):Prop:=(∀ e∈es,El w e)∧(es.map fun e=>keyV e.2).Perm ms
theorem Els.perm {w:World}{es es':List (Int×Value)}{ms:List Int}(h:Els w es ms)(p:es'.Perm es):Els w es' ms:=⟨fun e he=>h.1 e (p.mem_iff.mp he),(p.map _).trans h.2⟩
theorem Els.of {w:World}{prog:Program}{es:List (Int×Value)}{ms:List Int}(h:Els w es ms):ElemsOf (PySem.intKind prog w) es:=fun e he=>by
 obtain ⟨h1,t,h2⟩:=h.1 e he
 refine ⟨⟨keyV e.2,?_,h1⟩,?_⟩
 ·rw [h2]
  exact intKind_is prog w _ t
 ·rw [h2]
  rfl
theorem Els.len {w:World}{es:List (Int×Value)}{ms:List Int}(h:Els w es ms):es.length=ms.length:=by
 have:=h.2.length_eq
 rwa [List.length_map] at this
theorem Els.has {w:World}{prog:Program}{es:List (Int×Value)}{ms:List Int}(h:Els w es ms)(k:Int):k∈ms↔∃ e∈es,(PySem.intKind prog w).is k e.2=true:=by
 rw [<- h.2.mem_iff,List.mem_map]
 constructor
 ·rintro ⟨e,he,rfl⟩
  obtain ⟨_,t,h2⟩:=h.1 e he
  refine ⟨e,he,?_⟩
  conv=>lhs;arg 3;rw [h2]
  exact intKind_is prog w _ t
 ·rintro ⟨e,he,hk⟩
  obtain ⟨t,ht⟩:=Value.isInt_shape hk
  exact ⟨e,he,by rw [ht];rfl⟩
def Rs (t:SetTable):Prop:=(∀ i j,i<j->j<t.place.size->t.place.getD i 0<t.place.getD j 0)∧t.dummies = #[]
theorem below_go {xs:Array Nat}{j:Nat}(hr:∀ i k,i<k->k<xs.size->xs.getD i 0<xs.getD k 0):∀ (fuel lo hi:Nat),lo<=hi->hi<=xs.size->hi-lo<=fuel->(∀ i,i<lo->xs.getD i 0<j)->(∀ i,hi<=i->i<xs.size->j<=xs.getD i 0) ->
  SetTable.below.go xs j fuel lo hi<=xs.size∧(∀ i,i<SetTable.below.go xs j fuel lo hi->xs.getD i 0<j)∧(∀ i,SetTable.below.go xs j fuel lo hi<=i->i<xs.size->j<=xs.getD i 0)
 | 0,lo,hi,h1,h2,h3,h4,h5=>by
  have e:lo=hi:=by omega
  subst e
  exact ⟨h2,h4,h5⟩
 | fuel+1,lo,hi,h1,h2,h3,h4,h5=>by
  unfold SetTable.below.go
  by_cases hlt:lo<hi
  ·rw [if_pos hlt]
   dsimp only
   have hm:(lo+hi)/2<xs.size:=by omega
   have e:xs.getD ((lo+hi)/2) j=xs.getD ((lo+hi)/2) 0:=by
    rw [Array.getD_eq_getD_getElem?,Array.getD_eq_getD_getElem?,Array.getElem?_eq_getElem hm]
    rfl
   rw [e]
   by_cases hc:xs.getD ((lo+hi)/2) 0<j
   ·rw [if_pos hc]
    refine below_go hr fuel _ hi (by omega) h2 (by omega) (fun i hi'=>?_) h5
    rcases Nat.lt_or_ge i ((lo+hi)/2) with z | z
    ·exact Nat.lt_trans (hr i _ z hm) hc
    ·rw [show i=(lo+hi)/2 by omega];exact hc
   ·rw [if_neg hc]
    refine below_go hr fuel lo _ (by omega) (by omega) (by omega) h4 (fun i hi' hs=>?_)
    rcases Nat.lt_or_ge ((lo+hi)/2) i with z | z
    ·have:=hr _ i z hs
     omega
    ·rw [show i=(lo+hi)/2 by omega];omega
  ·rw [if_neg hlt]
   have e:lo=hi:=by omega
   subst e
   exact ⟨h2,h4,h5⟩
theorem below_ok {xs:Array Nat}(j:Nat)(hr:∀ i k,i<k->k<xs.size->xs.getD i 0<xs.getD k 0):SetTable.below xs j<=xs.size∧(∀ i,i<SetTable.below xs j->xs.getD i 0<j)∧(∀ i,SetTable.below xs j<=i->i<xs.size->j<=xs.getD i 0) :=
 below_go hr xs.size 0 xs.size (Nat.zero_le _) (Nat.le_refl _) (by omega) (fun i h=>by omega) fun i h1 h2=>by omega
theorem below_is {xs:Array Nat}{j p:Nat}(hr:∀ i k,i<k->k<xs.size->xs.getD i 0<xs.getD k 0)(h1:p<=xs.size)(h2:∀ i,i<p->xs.getD i 0<j)(h3:∀ i,p<=i->i<xs.size->j<=xs.getD i 0):SetTable.below xs j=p:=by
 obtain ⟨g1,g2,g3⟩:=below_ok j hr
 rcases Nat.lt_trichotomy (SetTable.below xs j) p with z | z | z
 ·have:=h2 _ z
  have:=g3 _ (Nat.le_refl _) (by omega)
  omega
 ·exact z
 ·have:=g2 _ z
  have:=h3 _ (Nat.le_refl _) (by omega)
  omega
theorem getD_get {xs:Array Nat}{i:Nat}(h:i<xs.size):xs[i]?=some (xs.getD i 0):=by
 rw [Array.getD_eq_getD_getElem?,Array.getElem?_eq_getElem h]
 rfl
theorem Rs.next {t:SetTable}(h:Rs t){i:Nat}(hi:i<=t.place.size):SetTable.below t.place (if i=0 then 0 else t.place.getD (i-1) 0+1)=i:=by
 refine below_is h.1 hi (fun k hk=>?_) (fun k hk hs=>?_)
 ·rw [if_neg (by omega)]
  rcases Nat.lt_or_ge k (i-1) with z | z
  ·have:=h.1 k (i-1) z (by omega)
   omega
  ·rw [show k=i-1 by omega];omega
 ·by_cases h0:i=0
  ·rw [if_pos h0];exact Nat.zero_le _
  ·rw [if_neg h0]
   have:=h.1 (i-1) k (by omega) hs
   omega
theorem probe_empty {t:SetTable}{f:Nat->Int}{h:Int}(hd:t.dummies = #[]):∀ (fuel:Nat) (p:SetTable.Probe) (j:Nat) (d:Option Nat),p.dummy=none->SetTable.probe.go t f h fuel p=some (.empty j d)->t.slot j = .empty∧d=none
 | 0,p,j,d,_,e=>by unfold SetTable.probe.go at e;cases e
 | fuel+1,p,j,d,hp,e=>by
  unfold SetTable.probe.go at e
  have hnd:t.slot p.j≠.dummy:=by
   unfold SetTable.slot
   dsimp only
   split
   ·intro z;cases z
   ·rw [hd]
    rw [show SetTable.has #[] p.j=false by unfold SetTable.has;simp]
    intro z;cases z
  have hadv:∀ q:SetTable.Probe,q.dummy=none->(t.advance q).dummy=none:=fun q hq=>by
   unfold SetTable.advance
   split
   ·exact hq
   ·exact hq
  split at e
  ·rename_i hs
   injection e with e
   injection e with e1 e2
   subst e1
   exact ⟨hs,by rw [<- e2];exact hp⟩
  ·rename_i hs
   exact absurd hs hnd
  ·split at e
   ·cases e
   ·exact probe_empty hd fuel _ j d (hadv p hp) e
theorem insert_rs {xs:Array Nat}{j:Nat}(hr:∀ i k,i<k->k<xs.size->xs.getD i 0<xs.getD k 0)(hj:∀ i,i<xs.size->xs.getD i 0≠j):∀ i k,i<k->k<(SetTable.insertAt xs (SetTable.below xs j) j).size->(SetTable.insertAt xs (SetTable.below xs j) j).getD i 0<(SetTable.insertAt xs (SetTable.below xs j) j).getD k 0:=by
 obtain ⟨g1,g2,g3⟩:=below_ok j hr
 generalize SetTable.below xs j=p at g1 g2 g3
 have hsz:(SetTable.insertAt xs p j).size=xs.size+1:=by
  unfold SetTable.insertAt
  simp
  omega
 have hat:∀ i,i<xs.size+1->(SetTable.insertAt xs p j).getD i 0=if i<p then xs.getD i 0 else if i=p then j else xs.getD (i-1) 0:=fun i hi=>by
  unfold SetTable.insertAt
  rw [Array.getD_eq_getD_getElem?,Array.getD_eq_getD_getElem?,Array.getD_eq_getD_getElem?]
  by_cases h1:i<p
  ·rw [if_pos h1,Array.getElem?_append_left (by simp;omega),Array.getElem?_push_lt (by simp;omega)]
   simp
   rw [Array.getElem?_eq_getElem (by omega)]
   rfl
  ·rw [if_neg h1]
   by_cases h2:i=p
   ·rw [if_pos h2,Array.getElem?_append_left (by simp;omega)]
    rw [show i=(xs.extract 0 p).size by simp;omega,Array.getElem?_push_size]
    rfl
   ·rw [if_neg h2,Array.getElem?_append_right (by simp;omega)]
    rw [Array.getElem?_extract]
    simp
    rw [show min p xs.size=p by omega]
    by_cases h3:i-(p+1)<xs.size-p
    ·rw [if_pos h3,show p+(i-(p+1))=i-1 by omega]
    ·omega
 intro i k hik hk
 rw [hsz] at hk
 rw [hat i (by omega),hat k hk]
 by_cases a1:i<p
 ·rw [if_pos a1]
  by_cases b1:k<p
  ·rw [if_pos b1];exact hr i k hik (by omega)
  ·rw [if_neg b1]
   have ha:=g2 i a1
   by_cases b2:k=p
   ·rw [if_pos b2];exact ha
   ·rw [if_neg b2]
    have:=g3 (k-1) (by omega) (by omega)
    omega
 ·rw [if_neg a1,if_neg (show ¬ k<p by omega),if_neg (show ¬ k=p by omega)]
  by_cases a2:i=p
  ·rw [if_pos a2]
   have h1:=g3 (k-1) (by omega) (by omega)
   have h2:=hj (k-1) (by omega)
   omega
  ·rw [if_neg a2]
   exact hr (i-1) (k-1) (by omega) (by omega)
theorem standIn_rs (t:SetTable)(n:Nat):Rs (t.standIn n):=by
 refine ⟨fun i j hij hj=>?_,rfl⟩
 have hj:j<n:=by simpa [SetTable.standIn] using hj
 show (Array.range n).getD i 0<(Array.range n).getD j 0
 rw [Array.getD_eq_getD_getElem?,Array.getD_eq_getD_getElem?,Array.getElem?_range,Array.getElem?_range]
 simp [hj,show i<n by omega]
 exact hij
theorem layNew_rs (t:SetTable)(es:Array (Int×Value))(h:Int)(x:Value)(hr:Rs t):Rs (layNew t es h x).2.1:=by
 unfold layNew
 split
 ·rename_i slot wd hf
  show Rs ((t.put slot).1.orStandIn _)
  unfold SetTable.orStandIn
  split
  ·unfold SetTable.freeSlot at hf
   split at hf
   ·rename_i j d hp
    have hp:SetTable.probe.go t (fun _=>h+1) h (10*SetTable.turns t.mask) (t.probeStart h)=some (.empty j d):=hp
    obtain ⟨h1,h2⟩:=probe_empty hr.2 _ _ j d rfl hp
    subst h2
    injection hf with hf
    injection hf with hf _
    have hf:j=slot:=hf
    subst hf
    refine ⟨insert_rs hr.1 fun i hi e=>?_,?_⟩
    ·have hb:SetTable.below t.place j=i:=below_is hr.1 (by omega) (fun k hk=>by rw [<- e];exact hr.1 k i hk hi) (fun k hk hs=>by
      rcases Nat.lt_or_ge i k with z | z
      ·have:=hr.1 i k z hs;omega
      ·rw [show k=i by omega,e];exact Nat.le_refl _)
     unfold SetTable.slot at h1
     dsimp only at h1
     rw [hb,getD_get hi,e] at h1
     simp at h1
    ·show (if SetTable.has t.dummies j then _ else t.dummies) = #[]
     rw [hr.2,show SetTable.has #[] j=false by unfold SetTable.has;simp]
     rfl
   ·cases hf
  ·exact standIn_rs _ _
 ·exact standIn_rs _ _
theorem live_rs {owner:Array (Option Nat)}:∀ n:Nat,(((List.range n).filterMap fun j=>(owner.getD j none).map (j,·)).map (·.1)).Pairwise (· < ·):=fun n=>by
 refine List.pairwise_map.mpr (List.Pairwise.filterMap (R:=fun a b:Nat=>a<b) (S:=fun a b:Nat×Nat=>a.1<b.1) _ (fun a a' haa b hb b' hb'=>?_) List.pairwise_lt_range)
 obtain ⟨x,_,rfl⟩:=Option.map_eq_some_iff.mp hb
 obtain ⟨y,_,rfl⟩:=Option.map_eq_some_iff.mp hb'
 exact haa
theorem relayAll_rs (t:SetTable)(es:Array (Int×Value))(n:Nat)(hr:Rs t):(relayAll t es n).2.1.led=t.led∧Rs (relayAll t es n).2.1:=by
 unfold relayAll
 split
 ·rename_i t' order hl
  dsimp only
  split
  ·unfold SetTable.relaid at hl
   refine ⟨(laid_marks hl).1,?_⟩
   unfold SetTable.laid at hl
   cases ho:SetTable.layClean (SetTable.sizeAbove n-1) (es.map (·.1)) with
   | none=>rw [ho] at hl;cases hl
   | some owner =>
    rw [ho] at hl
    injection hl with hl
    injection hl with hl _
    subst hl
    refine ⟨fun i j hij hj=>?_,rfl⟩
    have hp:=live_rs (owner:=owner) (SetTable.sizeAbove n-1+1)
    have hj':j<(((List.range (SetTable.sizeAbove n-1+1)).filterMap fun j=>(owner.getD j none).map (j,·)).map (·.1)).length:=by simpa using hj
    have:=List.pairwise_iff_getElem.mp hp i j (by omega) hj' hij
    show (List.toArray _).getD i 0<(List.toArray _).getD j 0
    rw [Array.getD_eq_getD_getElem?,Array.getD_eq_getD_getElem?,List.getElem?_toArray,List.getElem?_toArray,List.getElem?_eq_getElem (by omega),List.getElem?_eq_getElem hj']
    exact this
  ·exact ⟨rfl,standIn_rs _ _⟩
 ·exact ⟨rfl,standIn_rs _ _⟩
def Is (w:World)(h:Heap)(a:Addr)(ms:List Int):Prop :=
 ∃ o es ep t,h.get? a=some o∧o.ExactSet∧o.data = .set es ep t∧Els w es.toList ms∧ms.Nodup∧es.size<scanBound∧t.fits es.size=true∧(byT w=true∨t.led=true)∧Rs t
theorem Is.at {w:World}{h h':Heap}{a:Addr}{ms:List Int}(x:Is w h a ms)(e:∀ o,h.get? a=some o->h'.get? a=some o):Is w h' a ms:=let ⟨o,es,ep,t,ho,r⟩:=x;⟨o,es,ep,t,e o ho,r⟩
theorem Is.there {w:World}{h:Heap}{a:Addr}{ms:List Int}(x:Is w h a ms):∃ o,h.get? a=some o:=let ⟨o,_,_,_,ho,_⟩:=x;⟨o,ho⟩
section
variable {prog:Program}{w:World}{A:Around}{E:Value->Shared->Prop}{s:Shared}
theorem Is.store (prog:Program){a:Addr}{o:Obj}{es es':Array (Int×Value)}{ep:Nat}{t t':SetTable}{h:Heap}{ms:List Int}(ho:h.get? a=some o)(hex:o.ExactSet)(hd:o.data = .set es ep t)(hel:Els w es'.toList ms)(hnd:ms.Nodup)(hb:es'.size<scanBound)(hf:t'.fits es'.size=true)
  (hl:byT w=true∨t'.led=true) (hp:Rs t'):(h.update a (Obj.putSet es' t')).get? a=some { o with data:=.set es' (ep+1) t' }∧Is w (h.update a (Obj.putSet es' t')) a ms:=by
 have hg:=(SetOf_store (knd:=PySem.intKind prog w) (S':=fun k=>decide (k∈ms)) ho hex hd hel.of (fun k=>by rw [decide_eq_true_iff];exact hel.has k) hb hf).1
 exact ⟨hg,_,es',ep+1,t',hg,hex,rfl,hel,hnd,hb,hf,hl,hp⟩
theorem add_ok {a : Addr} {ms : List Int} {k : Int} {tk : Tok} {Q : Bool → Shared → Prop} (hS : Is w s.heap a ms) (hroom : ms.length + 1 < scanBound)
    (h : ∀ h' ms', Heap.SameBut a s.heap h' → Is w h' a ms' → (∀ x, x ∈ ms' ↔ x ∈ ms ∨ x = k) → ms'.length ≤ ms.length + 1 → Q (!decide (k ∈ ms)) { s with heap := h' }) :
    wpAny (model prog w) A (setAddHashed a (.int k tk) (hashInt k)) Q E s := by
  obtain ⟨o, es, ep, t, ho, hex, hd, hel, hnd, hb, hf, hl, hp⟩ := hS
  have hn : es.size = ms.length := by rw [← hel.len, Array.length_toList]
  have hkey : (PySem.intKind prog w).is k (.int k tk) = true := intKind_is prog w k tk
  unfold setAddHashed setAddHashedIn
  refine wpAny_holding (wpAny_bind (wpAny_setState_of ho hd hf ?_))
  dsimp only
  rw [byScan_of (knd := PySem.intKind prog w) (x := .int k tk) rfl hb hel.of]
  simp only [↓reduceIte]
  unfold setAddByScan
  refine wpAny_bind (wpAny_bind (wpAny_rule (wpAny_bind (wpAny_setScan_of (knd := PySem.intKind prog w) hkey ho hd hf hel.of ?_))))
  cases hr : List.findIdx? (fun e => (PySem.intKind prog w).is k e.2) es.toList with
  | some j =>
    dsimp only
    obtain ⟨hj, hpj, _⟩ := List.findIdx?_eq_some_iff_getElem.mp hr
    have hm : k ∈ ms := (hel.has (prog := prog) k).mpr ⟨es.toList[j], List.getElem_mem hj, hpj⟩
    refine wpAny_pure (wpAny_pure ?_)
    have z := h s.heap ms (Heap.SameBut.refl a s.heap) ⟨o, es, ep, t, ho, hex, hd, hel, hnd, hb, hf, hl, hp⟩ (fun x => ⟨.inl, fun q => q.elim id fun e => e ▸ hm⟩) (by omega)
    rw [decide_eq_true hm] at z
    exact z
  | none =>
    dsimp only
    have hm : ¬ k ∈ ms := fun z => by
      obtain ⟨e, he, q⟩ := (hel.has (prog := prog) k).mp z
      have := List.findIdx?_eq_none_iff.mp hr e he
      rw [q] at this
      cases this
    have gw : ∀ (b : Bool) {s₁ : Shared} {Q' : Unit → Shared → Prop}, Q' () s₁ → wpAny (model prog w) A (match b with | true => rule "set.scan.the-table-gave-way" | false => pure ()) Q' E s₁ := fun b s₁ Q' hq => by
      cases b
      · exact wpAny_pure hq
      · exact wpAny_rule hq
    have hperm := layNew_perm t es (hashInt k) (.int k tk)
    have hfits := layNew_fits t es (hashInt k) (.int k tk)
    have hled := layNew_led t es (hashInt k) (.int k tk)
    have hrs := layNew_rs t es (hashInt k) (.int k tk) hp
    generalize hL : layNew t es (hashInt k) (.int k tk) = L at hperm hfits hled hrs ⊢
    obtain ⟨es1, t1, wasDummy, gave⟩ := L
    dsimp only at hperm hfits hled hrs ⊢
    rw [Array.toList_push] at hperm
    have hel1 : Els w es1.toList (ms ++ [k]) := by
      refine Els.perm ⟨fun e he => ?_, ?_⟩ hperm
      · rcases List.mem_append.mp he with z | z
        · exact hel.1 e z
        · have e' : e = (hashInt k, .int k tk) := by simpa using z
          rw [e']
          exact ⟨rfl, tk, rfl⟩
      · rw [List.map_append]
        exact hel.2.append_right _
    have hnd1 : (ms ++ [k]).Nodup := List.nodup_append.mpr ⟨hnd, by simp, fun x hx y hy e => hm (by have : y = k := by simpa using hy
                                                                                                    rw [← this, ← e]; exact hx)⟩
    have hsz1 : es1.size = ms.length + 1 := by rw [← Array.length_toList, hel1.len, List.length_append, List.length_singleton]
    have hb1 : es1.size < scanBound := by omega
    have fin : ∀ h', Heap.SameBut a s.heap h' → Is w h' a (ms ++ [k]) → Q true { s with heap := h' } := fun h' sb x => by
      have z := h h' (ms ++ [k]) sb x (fun y => by rw [List.mem_append, List.mem_singleton]) (by rw [List.length_append, List.length_singleton]; omega)
      rw [decide_eq_false hm] at z
      exact z
    have tail : ∀ t2 : SetTable, t2.fits es1.size = true → (byT w = true ∨ t2.led = true) → Rs t2 → wpAny (model prog w) A (do
        storeSet a es1 t2
        if (!wasDummy && t2.tooFull) = true then do
            (match (relayAll t2 es1 (SetTable.grown es1.size)).2.2 with | true => rule "set.scan.the-table-gave-way" | false => pure ())
            storeSet a (relayAll t2 es1 (SetTable.grown es1.size)).1 (relayAll t2 es1 (SetTable.grown es1.size)).2.1
            pure (some true)
          else pure (some true)) (fun r s' => wpAny (model prog w) A (match r with | some added => pure added | none => setAddHashedIn a (.int k tk) (hashInt k) 99999) Q E s') E s := fun t2 hf2 hl2 hp2 => by
      refine wpAny_bind (wpAny_storeSet_of ho hd ?_ (fits_of_scanBound hb1))
      obtain ⟨ho1, hS1⟩ := Is.store prog ho hex hd hel1 hnd1 hb1 hf2 hl2 hp2
      have sb1 := Heap.SameBut.update s.heap a (Obj.putSet es1 t2)
      split
      · have q1 := relayAll_perm t2 es1 (SetTable.grown es1.size)
        have q2 := relayAll_fits t2 es1 (SetTable.grown es1.size)
        have q3 := relayAll_rs t2 es1 (SetTable.grown es1.size) hp2
        generalize relayAll t2 es1 (SetTable.grown es1.size) = Rl at q1 q2 q3 ⊢
        obtain ⟨es2, t3, g2⟩ := Rl
        dsimp only at q1 q2 q3 ⊢
        have hel2 := hel1.perm q1
        have hsz : es2.size = es1.size := by rw [← Array.length_toList, q1.length_eq, Array.length_toList]
        have hb2 : es2.size < scanBound := by omega
        refine wpAny_bind (gw _ (wpAny_bind (wpAny_storeSet_of ho1 rfl ?_ (fits_of_scanBound hb2))))
        obtain ⟨_, hS2⟩ := Is.store prog ho1 hex rfl hel2 hnd1 hb2 q2 (hl2.imp id fun z => q3.1.trans z) q3.2
        exact wpAny_pure (wpAny_pure (fin _ (sb1.trans (Heap.SameBut.update _ a _)) hS2))
      · exact wpAny_pure (wpAny_pure (fin _ sb1 hS1))
    refine wpAny_bind (gw _ ?_)
    have hl1 : byT w = true ∨ t1.led = true := hl.imp id fun z => hled.trans z
    split
    · refine wpAny_bind (wpAny_pure ?_)
      simp only [↓reduceIte]
      exact tail t1 hfits hl1 hrs
    · refine wpAny_bind (wpAny_pure ?_)
      simp only [↓reduceIte]
      exact tail t1 hfits hl1 hrs
end
section
variable {prog:Program}{w:World}{A:Around}{E:Value->Shared->Prop}{s:Shared}
theorem Is.fresh (h:Heap):Is w (h.push (freshO w)) h.objs.size []:=by
 refine ⟨freshO w,#[],0,.fresh 0 0 (!byT w),Heap.get?_push_size _ rfl,⟨rfl,rfl,rfl⟩,rfl,⟨fun e he=>by simp at he,by simp⟩,List.nodup_nil,by decide,rfl,?_,⟨fun i j _ h=>absurd h (by show ¬ j<0;omega),rfl⟩⟩
 cases byT w
 ·exact .inr rfl
 ·exact .inl rfl
theorem Is.ty {a:Addr}{ms:List Int}(x:Is w s.heap a ms):s.TypeIs (.ref a) "set" := by
 obtain ⟨o,_,_,_,ho,hex,_⟩:=x
 exact ⟨o,ho,hex.1⟩
end
theorem ints_els {w:World}:∀ L:List (Int×Value),(∀ e∈L,El w e)->IntsAre (L.map (·.2)) (L.map fun e=>keyV e.2)
 | [],_=>.nil
 | e::L,h=>by
  obtain ⟨_,tk,q⟩:=h e (List.mem_cons_self ..)
  rw [List.map_cons,List.map_cons]
  have r:=ints_els L fun x hx=>h x (List.mem_cons_of_mem _ hx)
  have z:IntsAre (Value.int (keyV e.2) tk::L.map (·.2)) (keyV e.2::L.map fun e=>keyV e.2):=.cons _ _ r
  rw [<- q] at z
  exact z
section
variable {prog:Program}{w:World}{A:Around}{E:Value->Shared->Prop}{s:Shared}
theorem iter_ok {a:Addr}{ms:List Int}{Q:Value->Shared->Prop}(hS:Is w s.heap a ms)
  (h:∀ (h':Heap) (d:Drawn) (I:Addr) (fp:List Addr) (xs:List Value) (ss:List Int) (St:Nat->Heap->Prop),(∀ A':Around,A'.handled=none->Walks prog w A' I fp [I] xs.length (fun i v=>xs[i]?=some v) St)->St 0 h' ->
   (∀ b o,s.heap.get? b=some o->h'.get? b=some o)->s.heap.objs.size<=I->(∀ b∈fp,b=a∨s.heap.objs.size<=b)->IntsAre xs ss->ss.Perm ms->Q (.ref I) { s with heap:=h',drawn:=d }) :
  wpAny (model prog w) A (pyIter (.ref a)) Q E s:=by
 obtain ⟨o,es,ep,t,ho,hex,hd,hel,hnd,hb,hf,hl,hp⟩:=id hS
 have hlt:=Heap.lt_size ho
 have hps:t.place.size=es.size:=by
  simp only [SetTable.fits,Bool.and_eq_true,beq_iff_eq] at hf
  exact hf.1
 refine wpAny_pyIter_slot hS.ty F.slot_set_iter (wpAny_call_entry F.slot_set_iter hS.ty entry_iter ?_ (F.args_set_iter_1 _))
 unfold Builtin.«frozenset.__iter__»
 refine wpAny_bind (m:=Builtin.Frozenset.slot0 "__iter__" ⟨[.ref a],[]⟩) (wpAny_of_eq (a:=a) rfl ?_)
 unfold Builtin.Frozenset.sizeOf
 refine wpAny_bind (wpAny_bind (wpAny_setEntries_of ho hd hf (wpAny_pure ?_)))
 have hlist:∀ L:List (Int×Value),L.Perm es.toList->IntsAre (L.map (·.2)) (L.map fun e=>keyV e.2)∧(L.map fun e=>keyV e.2).Perm ms:=fun L hp=>⟨ints_els L (hel.perm hp).1,(hel.perm hp).2⟩
 have fin:∀ (L:List (Int×Value)) (slots:Nat->Nat),slots 0=0->L.Perm es.toList->(∀ (i:Nat) (s:Shared) (A':Around) (E':Value->Shared->Prop) (Q':Option (Value×Nat)->Shared->Prop),s.heap.get? a=some o->i<=L.length->Q' ((L[i]?).map fun e=>(e.2,slots (i+1))) s->wpAny (model prog w) A' (setNext a (slots i) i ep) Q' E' s) ->
   wpAny (model prog w) A.in1 (setEpoch a >>= fun e=>newFields "set_iterator" [rawInt 0,rawInt 0,.ref a,rawInt (es.size:Int),rawInt (e:Int)] >>= ret) (fun fin s'=>∃ v,fin = .done (.ret v)∧∃ (T:String) (r:Value),s'.TypeIs v T∧typeLookup (.type T) "__next__" = pure (some r)∧Q v s') E s:=fun L slots h0 hL hN=>by
  refine wpAny_bind (wpAny_setEpoch_of ho hd hf ?_)
  have hI:It (s.heap.push { cls:=.type "set_iterator",data:=.fields #[rawInt 0,rawInt 0,.ref a,rawInt (es.size:Int),rawInt (ep:Int)] }) s.heap.objs.size a (rawInt (slots 0:Int)) 0 es.size ep:=⟨_,Heap.get?_push_size _ rfl,rfl,by rw [h0];rfl⟩
  obtain ⟨q1,q2⟩:=hlist L hL
  refine wpAny_bind (wpAny_newObj_type (wpAny_pure ⟨_,rfl, "set_iterator",_,⟨_,Heap.get?_push_size _ rfl,rfl⟩,slot_next.lookup,?_⟩))
  have z:=h (s.heap.push { cls:=.type "set_iterator",data:=.fields #[rawInt 0,rawInt 0,.ref a,rawInt (es.size:Int),rawInt (ep:Int)] }) s.drawn s.heap.objs.size [s.heap.objs.size,a] (L.map (·.2)) _ (fun i h=>h.get? a=some o∧It h s.heap.objs.size a (rawInt (slots i:Int)) i es.size ep) (fun A' hA'=>by
     rw [List.length_map]
     exact walk_int hA' (Nat.ne_of_lt hlt) hd hf hN) ⟨Heap.get?_push_of_some _ ho,hI⟩ (fun b o e=>Heap.get?_push_of_some _ e) (Nat.le_refl _) (fun b hb=>by
     rcases List.mem_cons.mp hb with rfl | hb
     · exact .inr (Nat.le_refl _)
     · exact .inl (List.mem_singleton.mp hb)) q1 q2
  exact z
 have hdrw:∀ (Q':Bool->Shared->Prop),Q' (!byT w&&(!t.plain&&decide (es.size>1))) s->wpAny (model prog w) A.in1 (setDrawn a) Q' E s:=fun Q' q=>by
  unfold setDrawn
  refine wpAny_bind (wpAny_setState_of ho hd hf ?_)
  dsimp only
  exact wpAny_bind (byText_ok (wpAny_pure q))
 refine wpAny_bind (hdrw _ ?_)
 by_cases hby:byT w=true
 ·rw [hby]
  simp only [Bool.not_true,Bool.false_and,Bool.false_eq_true,↓reduceIte]
  refine wpAny_bind (wpAny_pure ?_)
  refine fin (pickOrder (w.params.setOrder a ep) es).toList (fun _=>0) rfl (pick_perm _ _) fun i s' A' E' Q' ho' hi q=>?_
  unfold setNext
  refine wpAny_bind (wpAny_setState_of ho' hd hf ?_)
  dsimp only
  refine wpAny_bind (byText_ok ?_)
  rw [hby,if_pos rfl,bne_self_eq_false,if_neg Bool.false_ne_true]
  unfold setWalk
  refine wpAny_bind (wpAny_bind (wpAny_setState_of ho' hd hf ?_))
  dsimp only
  refine wpAny_bind (byText_ok ?_)
  rw [hby,if_pos rfl]
  refine wpAny_bind (wpAny_askSetting (wpAny_pure (wpAny_pure ?_)))
  rw [Array.getElem?_toList] at q
  exact q
 ·have hbf:byT w=false:=Bool.eq_false_iff.mpr hby
  have hld:t.led=true:=hl.resolve_left hby
  by_cases h1:(!t.plain&&decide (es.size>1))=false
  ·have hnot:(!byT w&&(!t.plain&&decide (es.size>1)))=false:=by rw [h1];simp
   rw [hnot]
   simp only [Bool.false_eq_true,↓reduceIte]
   refine wpAny_bind (wpAny_pure ?_)
   have hN:∀ (slot i:Nat) (s':Shared) (A':Around) (E':Value->Shared->Prop) (Q':Option (Value×Nat)->Shared->Prop),s'.heap.get? a=some o ->
       Q' (match es[SetTable.below t.place slot]?,t.place[SetTable.below t.place slot]? with | some (_,x),some j=>some (x,j+1) | _,_=>none) s'->wpAny (model prog w) A' (setNext a slot i ep) Q' E' s':=fun slot i s' A' E' Q' ho' q=>by
     unfold setNext
     refine wpAny_bind (wpAny_setState_of ho' hd hf ?_)
     dsimp only
     refine wpAny_bind (byText_ok ?_)
     rw [hbf,if_neg Bool.false_ne_true]
     show wpAny _ _ (if (!t.plain&&decide (es.size>1))=true then _ else _) _ _ s'
     rw [h1,if_neg Bool.false_ne_true]
     refine wpAny_bind (m:=if (!t.led && !es.isEmpty)=true then unsupported "set:maker-not-led" else pure ()) ?_
     rw [hld]
     simp only [Bool.not_true,Bool.false_and,Bool.false_eq_true,↓reduceIte]
     exact wpAny_pure (wpAny_pure q)
   refine fin es.toList (fun i=>if i=0 then 0 else t.place.getD (i-1) 0+1) rfl (List.Perm.refl _) fun i s' A' E' Q' ho' hi q=>hN _ i s' A' E' Q' ho' ?_
   rw [Array.length_toList] at hi
   rw [hp.next (by omega)]
   rw [Array.getElem?_toList] at q
   rcases Nat.lt_or_ge i es.size with z | z
   · rw [Array.getElem?_eq_getElem z] at q ⊢
     rw [getD_get (show i<t.place.size by omega)]
     exact q
   · rw [Array.getElem?_eq_none z] at q ⊢
     exact q
  ·have hyes:(!byT w&&(!t.plain&&decide (es.size>1)))=true:=by rw [hbf,(Bool.not_eq_false _).mp h1];rfl
   rw [hyes,if_pos rfl]
   have hr:(List.range es.size).length=es.size:=List.length_range
   refine wpAny_bind (m:=drawOrder es.size (List.range es.size)) ?_
   have dr:=draw_ok (prog:=prog) (w:=w) (A:=A.in1) (E:=E) (List.range es.size) s
   rw [hr] at dr
   refine dr _ fun ps d hpp=>?_
   have hpl:ps.length=es.size:=by rw [hpp.length_eq,hr]
   have hs:sizeLine=16777216:=sizeLine_eq
   have sb:scanBound=4096:=rfl
   refine wpAny_bind (wpAny_newTuple ?_ (by rw [List.length_map];omega))
   generalize hot:({ cls:=.type "tuple",data:=.seq (ps.map fun j:Nat=>rawInt (j:Int)).toArray }:Obj)=ot
   have hg:(s.heap.push ot).get? s.heap.objs.size=some ot:=Heap.get?_push_size _ (by rw [<- hot];rfl)
   have ho2:(s.heap.push ot).get? a=some o:=Heap.get?_push_of_some _ ho
   refine wpAny_bind (wpAny_setEpoch_of (s:={ s with heap:=s.heap.push ot,drawn:=d }) ho2 hd hf ?_)
   refine wpAny_bind (wpAny_newObj_type (wpAny_pure ⟨_,rfl, "set_iterator",_,⟨_,Heap.get?_push_size _ rfl,rfl⟩,slot_next.lookup,?_⟩))
   have hsz:(s.heap.push ot).objs.size=s.heap.objs.size+1:=Heap.size_push _ _
   have hfm:(ps.map fun p=>es.getD p (0,Value.none)).Perm es.toList:=by
     have e1:(List.range es.size).map (fun p=>es.getD p (0,Value.none))=es.toList:=by
       apply List.ext_getElem
       · simp
       · intro i g1 g2
         have g3:i<es.size:=by simpa using g1
         simp [Array.getD_eq_getD_getElem?,g3]
     exact (hpp.map _).trans (by rw [e1])
   obtain ⟨q1,q2⟩:=hlist _ hfm
   rw [List.map_map,List.map_map] at q1
   rw [List.map_map] at q2
   have hps':∀ p∈ps,p<es.size:=fun p hp=>List.mem_range.mp (hpp.mem_iff.mp hp)
   have hgo:∀ (o2:Obj),o2 = { cls:=.type "set_iterator",data:=.fields #[.ref s.heap.objs.size,rawInt 0,.ref a,rawInt (es.size:Int),rawInt (ep:Int)] }->Q (.ref (s.heap.objs.size+1)) { s with heap:=(s.heap.push ot).push o2,drawn:=d }:=fun o2 ho2'=>by
    refine h ((s.heap.push ot).push o2) d (s.heap.objs.size+1) [s.heap.objs.size+1,a,s.heap.objs.size] (ps.map fun p=>(es.getD p (0,Value.none)).2) _ (fun i h=>h.get? a=some o∧h.get? s.heap.objs.size=some ot∧It h (s.heap.objs.size+1) a (.ref s.heap.objs.size) i es.size ep) (fun A' hA'=>by
        rw [List.length_map]
        exact walk_ref (ot:=ot) (nt:=0) hA' (Nat.ne_of_lt (Nat.lt_succ_of_lt hlt)) (Nat.ne_of_lt (Nat.lt_succ_self _)) hd hf (by rw [<- hot]) hps') ⟨Heap.get?_push_of_some _ ho2,Heap.get?_push_of_some _ hg,?_⟩ (fun b o e=>Heap.get?_push_of_some _ (Heap.get?_push_of_some _ e)) (Nat.le_succ _) (fun b hb=>?_) q1 q2
    · rw [<- hsz]
      exact ⟨o2,Heap.get?_push_size _ (by rw [ho2'];rfl),by rw [ho2'],by rw [ho2'];rfl⟩
    · rcases List.mem_cons.mp hb with rfl | hb
      · exact .inr (Nat.le_succ _)
      · rcases List.mem_cons.mp hb with rfl | hb
        · exact .inl rfl
        · exact .inr (Nat.le_of_eq (List.mem_singleton.mp hb).symm)
   have z:=hgo _ rfl
   rw [<- hsz] at z
   exact z
end
section
variable {prog:Program}{w:World}{A:Around}{E:Value->Shared->Prop}{s:Shared}
theorem hint_ok {a:Addr}{ms:List Int}{Q:Bool->Shared->Prop}(hS:Is w s.heap a ms)(h:Q false s):wpAny (model prog w) A (Builtin.List.listLengthHint (.ref a)) Q E s:=by
 unfold Builtin.List.listLengthHint
 refine wpAny_bind (wpAny_specialOf hS.ty F.slot_set_len.lookup ?_)
 generalize hid:("set.__len__" : String)=id0
 wp_delta
 rw [show splitId id0=some ("set", "__len__") from by subst hid;decide +kernel]
 subst hid
 refine wpAny_bind (wpAny_isInstance (T := "set") (b:=true) hS.ty sub_set_self ?_)
 refine wpAny_ite_split (fun hab=>absurd hab (by decide)) (fun _=>?_)
 refine wpAny_ite_split (fun _=>?_) (fun hab=>absurd (by decide +kernel) hab)
 refine wpAny_bind (wpAny_typeOf hS.ty ?_)
 exact wpAny_pure h
theorem extend_ok {a:Addr}{ms:List Int}{R:Result->Shared->Prop}(hh:A.handled=none)(hS:Is w s.heap a ms)(hz:ms.length<=sizeLine)(S:Addr)(res:Value)(h1:S≠a)(hSl:s.heap.get? S=some { cls:=.type "list",data:=.seq #[] })
  (hR:∀ s' acc' c' ss,(∀ b o,b≠S->s.heap.get? b=some o->s'.heap.get? b=some o)->s'.gens=s.gens->s'.os=s.os->s'.heap.get? S=some { cls:=.type "list",dict:=none,data:=.seq acc' c',slots:=#[] }->IntsAre acc'.toList ss->ss.Perm ms->R (.ok (.ret res)) s') :
  wpAny (model prog w) A.in1 (Builtin.List.listExtendWith (.ref S) (.ref a) res)
   (fun fin s'=>match fin with | .done f=>R (.ok f) s' | .again c'=>c'.quiet=true∧codeAny (model prog w) A c' R s') (fun e s'=>R (.error e) s') s:=by
 unfold Builtin.List.listExtendWith
 refine wpAny_bind (wpAny_typeOf hS.ty ?_)
 have g1:Builtin.List.listSameRef (.ref S) (.ref a)=false:=by simp [Builtin.List.listSameRef,h1]
 have g2:(Value.type "set" == Value.type "list")=false:=by decide
 have g3:(Value.type "set" == Value.type "tuple")=false:=by decide
 simp only [g1,g2,g3,Bool.or_false,Bool.false_eq_true,if_false]
 refine wpAny_bind (iter_ok (A:=A.in1) hS fun h2 d I fp xs ss St W st0 kp hIs hfp hss hpm=>?_)
 have hlt:=Heap.lt_size hSl
 have hSI:S≠I:=Nat.ne_of_lt (Nat.lt_of_lt_of_le hlt hIs)
 have hSf:S∉fp:=fun z=>by
  rcases hfp S z with e | e
  ·exact h1 e
  ·exact absurd hlt (Nat.not_lt.mpr e)
 have hS2:Is w h2 a ms:=hS.at fun o e=>kp a o e
 refine wpAny_bind (wpAny_holding (hint_ok (s:={ s with heap:=h2,drawn:=d }) hS2 ?_))
 have WS:=(W A.in1 hh).toS
 have hxl:xs.length=ms.length:=by rw [hss.length,hpm.length_eq]
 have last:∀ (h0:Heap) (c0:Nat),(∀ b o,b≠S->h2.get? b=some o->h0.get? b=some o)->h0.get? S=some { cls:=.type "list",data:=.seq #[] c0 } ->
   wpAny (model prog w) A.in1 (again (.builtin "list.extend.loop" ⟨[.ref S,.ref I,res],[]⟩))
    (fun fin s'=>match fin with | .done f=>R (.ok f) s' | .again c'=>c'.quiet=true∧codeAny (model prog w) A c' R s') (fun e s'=>R (.error e) s') { s with heap:=h0,drawn:=d }:=fun h0 c0 hk0 hS0=>by
  refine wpAny_pure ⟨plainId_quiet F.plain_extend_loop _,codeAny_extend_loopS WS (by omega) S hSf res xs.length 0 _ #[] c0 rfl (Nat.zero_le _) ?_ hS0 (ItemsOf.nil _) fun s' acc' c' hm hS' hacc=>?_⟩
  ·exact (W A.in1 hh).frame 0 h2 h0 st0 fun b hb o e=>hk0 b o (fun z=>hSf (z▸hb)) e
  ·refine hR s' acc' c' ss (fun b o hb e=>?_) hm.gens hm.os hS' (by rw [items_eq hacc];exact hss) hpm
   by_cases hbI:b=I
   ·subst hbI
    exact absurd (Heap.lt_size e) (Nat.not_lt.mpr hIs)
   ·exact hm.heap b o (by simp [hb,hbI]) (hk0 b o hb (kp b o e))
 refine wpAny_ite_split (fun _=>?_) (fun hab=>absurd (by decide +kernel) hab)
 refine wpAny_bind (wpAny_rule ?_)
 have hSl2:h2.get? S=some { cls:=.type "list",data:=.seq #[] }:=kp S _ hSl
 refine wpAny_bind (m:=((do updateSeq S (fun z=>z.push .none);updateSeq S (fun z=>z.pop)):Sem Unit)) (wpAny_bind (wpAny_updateSeq (s:={ s with heap:=h2,drawn:=d }) hSl2 rfl ?_))
 have k1:=Heap.get?_update_self (Obj.mapSeq (fun z=>z.push .none)) hSl2 rfl
 refine wpAny_updateSeq k1 rfl ?_
 have k2:=Heap.get?_update_self (Obj.mapSeq (fun z=>z.pop)) k1 rfl
 exact last _ _ (fun b o hb e=>(Heap.get?_update_other _ _ (Ne.symm hb)).trans ((Heap.get?_update_other _ _ (Ne.symm hb)).trans e)) k2
theorem collect_ok {a:Addr}{ms:List Int}{Q:List Value->Shared->Prop}(hh:A.handled=none)(hS:Is w s.heap a ms)(hz:ms.length<=sizeLine)
  (hQ:∀ s' vs ss,(∀ b o,s.heap.get? b=some o->s'.heap.get? b=some o)->s'.gens=s.gens->s'.os=s.os->IntsAre vs ss->ss.Perm ms->Q vs s'):wpAny (model prog w) A (collect (.ref a)) Q E s:=by
 have hlt:=Heap.lt_size hS.there.choose_spec
 unfold collect
 refine wpAny_bind (wpAny_runValue (codeAny_builtin F.entry_proto_collect ?_))
 rw [Around.under_plainId F.plain_proto_collect]
 refine wpAny_bind (m:=newList []) (wpAny_newObj_type (wpAny_pure ⟨plainId_quiet F.plain_list_iadd _,codeAny_builtin F.entry_list_iadd ?_⟩))
 rw [Around.under_plainId F.plain_list_iadd]
 have hSl:(s.heap.push { cls:=.type "list",data:=.seq #[] }).get? s.heap.objs.size=some { cls:=.type "list",data:=.seq #[] }:=Heap.get?_push_size _ rfl
 have go:∀ R:Result->Shared->Prop,(∀ s' acc' c' ss,(∀ b o,s.heap.get? b=some o->s'.heap.get? b=some o)->s'.gens=s.gens->s'.os=s.os->s'.heap.get? s.heap.objs.size=some { cls:=.type "list",dict:=none,data:=.seq acc' c',slots:=#[] }->IntsAre acc'.toList ss->ss.Perm ms->R (.ok (.ret (.ref s.heap.objs.size))) s') ->
   wpAny (model prog w) A.in1 (Builtin.List.listExtendWith (.ref s.heap.objs.size) (.ref a) (.ref s.heap.objs.size))
    (fun fin s'=>match fin with | .done f=>R (.ok f) s' | .again c'=>c'.quiet=true∧codeAny (model prog w) A c' R s') (fun e s'=>R (.error e) s') { s with heap:=s.heap.push { cls:=.type "list",data:=.seq #[] } }:=fun R hR =>
  extend_ok (A:=A) (s:={ s with heap:=s.heap.push { cls:=.type "list",data:=.seq #[] } }) hh (hS.at fun o e=>Heap.get?_push_of_some _ e) hz s.heap.objs.size (.ref s.heap.objs.size) (Nat.ne_of_gt hlt) hSl
   fun s' acc' c' ss kp g1 g2 e1 e2 e3=>hR s' acc' c' ss (fun b o e=>kp b o (Nat.ne_of_lt (Heap.lt_size e)) (Heap.get?_push_of_some _ e)) g1 g2 e1 e2 e3
 refine go (fun r s'=>match r with
  | .ok (.ret v)=>wpAny (model prog w) A (match v with
   | .ref a=>do
    match (<- load a).data with
    | .seq xs _=>pure xs.toList
    | _=>unsupported "internal:collect"
   | _=>unsupported "internal:collect") Q E s'
  | .ok _=>False
  | .error e=>E e s') fun s' acc' c' ss kp g1 g2 hS' e2 e3=>?_
 refine wpAny_bind (m:=load s.heap.objs.size) (wpAny_load hS' (wpAny_pure ?_))
 exact hQ s' acc'.toList ss kp g1 g2 e2 e3
end
end SN
namespace L2
open PySem PySem.Spec PyProof.Rows
namespace SEN
def Of (w:World)(h:Heap)(D:Addr)(ls:List Int)(i:Nat):Prop:=∃ ms,SN.Is w h D ms∧(∀ x,x∈ms↔x∈ls.take i)∧ms.length<=i
theorem Of.at {w:World}{h h':Heap}{D:Addr}{ls:List Int}{i:Nat}(x:Of w h D ls i)(k:∀ o,h.get? D=some o->h'.get? D=some o):Of w h' D ls i:=let ⟨ms,a,b⟩:=x;⟨ms,a.at k,b⟩
section
variable {prog:Program}{w:World}{A:Around}{R:Result->Shared->Prop}{J:Addr}{fp wr:List Addr}{G:Array GenState->Array GenState->Prop}{n:Nat}{P:Nat->Value->Prop}{St:Nat->Shared->Prop}
theorem loopI (W:WalksS prog w A.in1 J fp wr G n P St){D:Addr}(hD:D∉fp)(ls:List Int)(hv:∀ i v,P i v->∃ t,v=Value.int (ls.getD i 0) t)(hn:n+1<scanBound)(hnl:n<=ls.length) :
  ∀ (k i:Nat) (s:Shared),n-i=k->i<=n->St i s->Of w s.heap D ls i ->
   (∀ s',Moved (D::wr) G s s'->Of w s'.heap D ls n->R (.ok (.ret .none)) s')->codeAny (model prog w) A (.builtin "set.update.loop" ⟨[.ref D,.ref J],[]⟩) R s:=by
 have hDw:D∉wr:=fun z=>hD (W.sub _ z)
 have up:∀ b∈wr,b∈D::wr:=fun b hb=>.tail _ hb
 intro k
 induction k with
 | zero =>
  intro i s hk hi st hs hR
  obtain rfl:i=n:=by omega
  refine codeAny_builtin PyProof.Rows.F.entry_set_update_loop ?_
  rw [Around.under_plainId PyProof.Rows.F.plain_set_update_loop]
  refine wpAny_bind (m:=pyNext (.ref J)) (W.done s _ _ st fun s2 mv=>?_)
  exact (show wpAny _ A.in1 (ret Value.none) _ _ s2 from wpAny_pure (hR s2 (mv.mono up) (hs.at fun o e=>mv.heap D o hDw e)))
 | succ k ih =>
  intro i s hk hi st hs hR
  have hlt:i<n:=by omega
  refine codeAny_builtin PyProof.Rows.F.entry_set_update_loop ?_
  rw [Around.under_plainId PyProof.Rows.F.plain_set_update_loop]
  refine wpAny_bind (m:=pyNext (.ref J)) (W.item i s _ _ hlt st fun v s2 pv st2 mv=>?_)
  obtain ⟨t,rfl⟩:=hv i v pv
  have hs2:=hs.at fun o e=>mv.heap D o hDw e
  refine wpAny_bind (m:=holding [Value.int (ls.getD i 0) t] (setAdd D (.int (ls.getD i 0) t))) (wpAny_holding ?_)
  unfold setAdd
  refine wpAny_holding (wpAny_bind ((PySem.intKind prog w).pyHash (k:=ls.getD i 0) (intKind_is _ _ _ _) ?_))
  obtain ⟨ms,hi1,hi2,hi3⟩:=hs2
  refine SN.add_ok (s:={ s2 with toks:=s2.toks+1 }) hi1 (by omega) fun h3 ms3 sb i3 m3 l3=>?_
  have x4:Of w h3 D ls (i+1):=by
   refine ⟨ms3,i3,fun x=>?_,by omega⟩
   have e:ls.take (i+1)=ls.take i++[ls.getD i 0]:=by
    rw [List.take_add_one,List.getD_eq_getElem?_getD,List.getElem?_eq_getElem (by omega)]
    rfl
   rw [m3,hi2,e,List.mem_append,List.mem_singleton]
  refine wpAny_pure ⟨plainId_quiet PyProof.Rows.F.plain_set_update_loop _,ih (i+1) _ (by omega) hlt (W.frame _ s2 _ _ st2 (Nat.le_succ _) fun b hb o e=>(sb.2 b fun z=>hD (z▸hb)).trans e) x4 fun s5 m5 x5=>?_⟩
  refine hR s5 (Moved.trans W.gtrans ((mv.mono up).then_heap (Nat.le_succ _) fun b o hb e=>(sb.2 b fun z=>hb (z▸.head _)).trans e) m5) x5
variable {E:Value->Shared->Prop}{s:Shared}
theorem call_ofI {l:Addr}{its:Array Value}{ls:List Int}{Q:Value->Shared->Prop}(hh:A.handled=none)(hl:s.heap.IsList l its)(hv:∀ i v,its[i]?=some v->∃ t,v=Value.int (ls.getD i 0) t)(hn:its.size+1<scanBound)(hnl:its.size<=ls.length)
  (h:∀ (h':Heap) (tk:Nat),Of w h' s.heap.objs.size ls its.size->(∀ b o,s.heap.get? b=some o->h'.get? b=some o)->Q (.ref s.heap.objs.size) { s with heap:=h',toks:=tk }) :
  wpAny (model prog w) A (call (.type "set") [.ref l]) Q E s:=by
 obtain ⟨mc,mt,f0⟩:=F.called_set.mro
 have f1:=F.called_set.made;have f2:=F.called_set.sub;have f3:=F.called_set.notType;have f4:=F.called_set.canCreate;have f5:=F.typeCall_set_1 (.ref l)
 refine wpAny_call (codeAny_of_tree (show wpAny _ _ (callAny (.type "set") _) _ _ _ from wpAny_pure ⟨Code.quiet_builtin _ (by decide +kernel),codeAny_builtin F.entry_type_call ?_⟩))
 rw [Around.under_plain (weight_type_call_type "set" [.ref l] []) rfl]
 repeat (any_goals (first | wp_step | assumption))
 refine codeAny_mono (SS.code_new1 (.ref l) (E:=E) (Q₁:=fun ob s1=>ob = .ref s.heap.objs.size∧s1 = { s with heap:=s.heap.push (SS.freshO w) }) ⟨rfl,rfl⟩) fun r s1 hr=>?_
 cases r with
 | error e=>exact hr
 | ok fl =>
  cases fl with
  | ret ob =>
   obtain ⟨rfl,rfl⟩:=hr
   generalize hob:SS.freshO w=ob
   have hD:(s.heap.push ob).get? s.heap.objs.size=some ob:=Heap.get?_push_size _ (by rw [<- hob];rfl)
   have hT:Shared.TypeIs { s with heap:=s.heap.push ob } (.ref s.heap.objs.size) "set" := ⟨_,hD,by rw [<- hob];rfl⟩
   have f6:=F.called_set.init.lookup;have f7:=F.called_set.init.bind (.ref s.heap.objs.size)
   repeat (any_goals (first | wp_step | assumption))
   refine codeAny_mono (codeAny_call_builtin (R:=wants (fun r s2=>r = .none∧∃ h' tk,s2 = { s with heap:=h',toks:=tk }∧Of w h' s.heap.objs.size ls its.size∧∀ b o,s.heap.get? b=some o->h'.get? b=some o) E)
    F.called_set.init.plain F.entry_set_init (check_set_init_1 hT ?_)) fun r2 s2 hr2=>?_
   ·obtain ⟨⟨oc,od,odt,osl⟩,hol,hcl,nl,hdl⟩:=id hl
    simp only at hcl hdl
    subst hcl hdl
    have hol':(s.heap.push ob).get? l=some { cls:=.type "list",dict:=od,data:=.seq its nl,slots:=osl }:=Heap.get?_push_of_some _ hol
    have f8:=F.sub_list_set;have f9:=F.sub_list_frozenset
    have f10:(Value.type "list" == Value.type "dict")=false:=by decide
    have hl1:(s.heap.push ob).IsList l its:=⟨_,hol',rfl,nl,rfl⟩
    subst hob
    unfold Builtin.«set.__init__» noKeywords Builtin.Frozenset.updateFrom
    generalize hPI:pyIter=PI
    wp_walk
    subst hPI
    refine wpAny_pyIter_list hl1 ?_
    refine wpAny_bind (wpAny_runValue ?_)
    have hlt:l<s.heap.objs.size:=Heap.lt_size hol
    have hh3:A.in1.in1.in1.handled=none:=by simp [hh]
    have hsz:(s.heap.push (SS.freshO w)).objs.size=s.heap.objs.size+1:=Heap.size_push _ _
    have hne:l≠(s.heap.push (SS.freshO w)).objs.size:=by rw [hsz];exact Nat.ne_of_lt (Nat.lt_succ_of_lt hlt)
    have hfp:s.heap.objs.size∉[(s.heap.push (SS.freshO w)).objs.size,l]:=by
     rw [hsz]
     intro z
     rcases List.mem_cons.mp z with e | e
     ·exact Nat.ne_of_lt (Nat.lt_succ_self _) e
     ·exact Nat.ne_of_gt hlt (List.mem_singleton.mp e)
    refine loopI ((Walks.list hh3 _ l hne its).toS) (D:=s.heap.objs.size) hfp ls hv hn hnl (its.size-0) 0 _ (by omega) (Nat.zero_le _) ⟨⟨_,Heap.get?_push_size _ rfl,rfl,rfl⟩,hl1.push _⟩ ?_ fun s3 mv x3=>?_
    ·have hg:((s.heap.push (SS.freshO w)).push { cls:=.type "list_iterator",data:=.fields #[.ref l,.int 0 0] }).get? s.heap.objs.size=some (SS.freshO w):=Heap.get?_push_of_some _ hD
     exact ⟨[],(SN.Is.fresh s.heap).at fun o e=>Heap.get?_push_of_some _ e,fun x=>by simp,Nat.zero_le _⟩
    ·obtain ⟨h3,g3,d3,tk3,os3⟩:=s3
     obtain rfl:g3=s.gens:=mv.gens
     obtain rfl:d3=s.drawn:=mv.drawn
     obtain rfl:os3=s.os:=mv.os
     refine wpAny_pure (show wpAny _ _ (ret Value.none) _ _ _ from wpAny_pure ⟨rfl,h3,tk3,rfl,x3,fun c o e=>?_⟩)
     have hc:=Heap.lt_size e
     exact mv.heap c o (show c∉[s.heap.objs.size,(s.heap.push (SS.freshO w)).objs.size] by
      rw [hsz]
      intro z
      rcases List.mem_cons.mp z with e | e
      ·exact Nat.ne_of_lt hc e
      ·exact Nat.ne_of_lt (Nat.lt_succ_of_lt hc) (List.mem_singleton.mp e)) (Heap.get?_push_of_some _ (Heap.get?_push_of_some _ e))
   ·cases r2 with
    | error e=>exact hr2
    | ok fl2 =>
     cases fl2 with
     | ret r =>
      obtain ⟨rfl,h3,tk,rfl,x3,k3⟩:=hr2
      repeat (any_goals (first | wp_step | assumption))
      exact h _ _ x3 k3
     | _=>exact hr2.elim
  | _=>exact hr.elim
end
end SEN
def SetN (w:World)(D:Addr)(ms:List Int):HO:=.ext fun h=>SN.Is w h D ms
theorem isN_nodup {w:World}{h:Heap}{D:Addr}{ms:List Int}(x:SN.Is w h D ms):ms.Nodup:=let ⟨_,_,_,_,_,_,_,_,n,_⟩:=x;n
section
variable {X:Cx}
theorem setN_ok {pins:List (Addr×Obj)}{σ:St}{H:Hp}{s:Shared}{D:Addr}{ms:List Int}(I:Inv X pins σ H s)(h:H D=some (SetN X.w D ms)):SN.Is X.w s.heap D ms:=by
 obtain ⟨x,_⟩:=(show ObjOk X.prog X.w H s.heap D (SetN X.w D ms) from I.hok D _ h)
 exact x
theorem call_setN (hc:X.calm=true):CallR X (.type "set") (fun xs H Q=>∃ (p:Addr) (ns:List Int),xs=[.ref p]∧SqL X.K H p (ns.map V.int)∧ns.length+1<4096∧∀ (D:Addr) (ms:List Int),H D=none->ms.Nodup->ms.length<=ns.length->(∀ x,x∈ms↔x∈ns)->Q (.ref D) (upd H D (SetN X.w D ms))):=by
 intro pins s σ H xs us Q I r h
 obtain ⟨p,ns,rfl,hq,hz,q⟩:=h
 obtain ⟨u,rfl,ru⟩:=vals1 r
 cases ru
 obtain ⟨its,rv,pl,_⟩:=I.list hq
 have hlen:=rv.length
 rw [List.length_map] at hlen
 refine SEN.call_ofI (I.ok.hd hc) pl.isList (ls:=ns) (fun i v e=>?_) (by rw [List.size_toArray];unfold scanBound;omega) (by rw [List.size_toArray];omega) fun h' tk x k=>?_
 ·have e:its[i]?=some v:=by simpa using e
  have hi:i<ns.length:=by have:=(List.getElem?_eq_some_iff.mp e).1;omega
  obtain ⟨u',e1,q1⟩:=rv.get (i:=i) (x:=V.int ns[i]) (by rw [List.getElem?_map,List.getElem?_eq_getElem hi];rfl)
  rw [e] at e1
  obtain rfl:=Option.some.inj e1
  obtain ⟨t,rfl⟩:=q1
  exact ⟨t,by rw [List.getD_eq_getElem?_getD,List.getElem?_eq_getElem hi];rfl⟩
 obtain ⟨ms,i1,i2,i3⟩:=x
 have hf:H s.heap.objs.size=none:=I.hok.fresh (Nat.le_refl _)
 refine ⟨.ref s.heap.objs.size,_,I.laid (t':=tk) k (Nat.le_refl _) (o:=SetN X.w s.heap.objs.size ms) ⟨i1,i1.there,fun h1 h2 x1 kk=>x1.at kk⟩,rfl,q _ ms hf (isN_nodup i1) (by rw [List.size_toArray] at i3;omega) fun x=>?_⟩
 rw [i2,List.size_toArray,<- hlen,List.take_length]
theorem call_sortedN (hc:X.calm=true):CallR X (.builtin "sorted") (fun xs H Q=>∃ (p:Addr) (ns:List Int),xs=[.ref p]∧H p=some (SetN X.w p ns)∧ns.length<64∧∀ (ms:List Int) (D:Addr),H D=none->ms.Perm ns->ms.Pairwise (·<=·)->Q (.ref D) (upd H D (.lst (ms.map V.int)))):=by
 intro pins s σ H xs us Q I r h
 obtain ⟨p,ns,rfl,hq,h64,q⟩:=h
 obtain ⟨u,rfl,ru⟩:=vals1 r
 cases ru
 have hs:sizeLine=16777216:=sizeLine_eq
 have hz:ns.length<=sizeLine:=by omega
 refine Calls.call_function_entry kind_sorted plain_sorted entry_sorted (args_sorted1 _) ?_
 unfold Builtin.«sorted»
 refine wpAny_bind (m:=checkCount "sorted" 1 1 _) (wpAny_pure (wpAny_bind (SN.collect_ok (I.ok.hd hc) (setN_ok I hq) hz fun s1 vs ss kp g1 g2 hS hp=>?_)))
 have hg:AllBare s1.gens:=by rw [g1];exact I.bare
 have I1:Inv X pins σ H s1:=I.call' (ch:=[]) g2 (Un.kept kp) (I.hok.kept kp) hg fun _ z=>nomatch z
 have hvl:vs.length=ns.length:=by rw [hS.length,hp.length_eq]
 refine wpAny_bind (wpAny_newList ?_ (by rw [hvl];exact hz))
 have e2:(s1.heap.push (seqObj "list" vs.toArray 0)).get? s1.heap.objs.size=some (seqObj "list" vs.toArray 0):=Heap.get?_push_size _ rfl
 show wpAny _ _ _ _ _ { s1 with heap:=s1.heap.push (seqObj "list" vs.toArray 0) }
 refine wpAny_bind (wpAny_holding (wpAny_call_entry slot_list_sort ⟨_,e2,rfl⟩ entry_list_sort (list_sort_tree e2 hS (by omega) fun out ns' a1 a2 a3=>⟨_,rfl,?_⟩) (args_list_sort _)))
 obtain ⟨e,he⟩:=sortedHeap_at (out:=out) e2
 have hp':ns'.Perm ns:=a2.trans hp
 refine wpAny_pure ⟨_,rfl,⟨.ref _,_,I1.laid (t':=s1.toks) (fun b o eo=>?_) (Nat.le_refl _) (o:=.lst (ns'.map V.int)) ⟨?_,out.toList,e,vals_ints a1,by simpa using he⟩,rfl,q _ _ (I1.hok.fresh (Nat.le_refl _)) hp' a3⟩⟩
 ·have hlt:=Heap.lt_size eo
  rw [sortedHeap_old (Nat.ne_of_lt hlt) (by rw [size_push'];exact Nat.lt_succ_of_lt hlt)]
  exact Heap.get?_push_of_some _ eo
 ·rw [List.length_map,hp'.length_eq]
  exact hz
end
end L2
namespace L2
open PySem PyProof.Rows
section
variable {X:Cx}
end
end L2
namespace L2
open PySem PyProof.Rows PySem.Spec
section
variable {X:Cx}
end
end L2
namespace L2
open PySem PyProof.Rows PySem.Spec
section
variable {X:Cx}
end
end L2
namespace L2
open PySem
section
variable {X:Cx}
theorem ps_wk {st:Stmt}{t t':TS}(h:PS X st t)(hw:∀ (D:Ends) (σ:St) (H:Hp),t' D σ H->t D σ H):PS X st t':=fun pins s σ H D I q=>h pins s σ H D I (hw D σ H q)
end
end L2
namespace L2
open PySem PyProof.Rows
section
variable {X:Cx}
end
end L2
namespace L2
open PySem PySem.Spec PyProof.Rows
section
variable {X:Cx}
end
end L2
namespace L2
open PySem PySem.Spec PyProof.Rows
end L2
namespace L2
open PySem PyProof.Rows PySem.Spec
section
variable {X:Cx}
theorem op_ne_L0 (K:PySem.W.Frag)(hK:X.K=K)(hu:X.A.units<cLine):OpR X (compareOp .NotEq) (fun x y H Q=>∃ (p b:Addr) (ys:List V),x = .ref p∧y = .ref b∧SqL K H p ys∧SqL K H b []∧Q (.bl (!ys.isEmpty)) H):=by
 subst hK
 intro pins s σ H x y v u Q I rx ry h
 obtain ⟨p,b,ys,rfl,rfl,h1,h2,q⟩:=h
 cases rx
 cases ry
 obtain ⟨its,r,pl,_⟩:=I.list h1
 obtain ⟨its2,r2,pl2,_⟩:=I.list h2
 have l1:=r.length
 have l2:=r2.length
 cases ys with
 | nil =>
  have e1:its=[]:=List.length_eq_zero_iff.mp l1.symm
  have e2:its2=[]:=List.length_eq_zero_iff.mp l2.symm
  subst e1 e2
  refine SeqAt.RcNeAt.lists (e:=fun _=>true) pl.isList pl2.isList rfl hu (fun j g1 g2=>absurd g1 (by simp)) _ _ _ _ ?_
  exact ⟨.bl _,H,I,rfl,q⟩
 | cons y ys =>
  refine SeqAt.RcNeAt.lists_lengths pl.isList pl2.isList (by rw [List.size_toArray,List.size_toArray,bne_iff_ne];simp only [List.length_cons,List.length_nil] at l1 l2;omega) hu _ _ _ _ ?_
  exact ⟨.bl _,H,I,rfl,q⟩
end
end L2
namespace K39
open PySem L2
seal L2.PSs L2.PS L2.PE L2.PA L2.PT L2.PW L2.PI L2.PG L2.PGs L2.PO L2.PTy L2.PH L2.OpR L2.CallR L2.IxR L2.SlR L2.UnR L2.PSet
def top (i:Nat):Stmt:=PySem.Challenge.pw_onceround_k39_whole_rings_numbered.main.body.getD i (.Pass ⟨0,0,0,0⟩)
abbrev s_further_times:Stmt:=top 34
abbrev s_inverse:Stmt:=top 35
abbrev s_lowered:Stmt:=top 36
abbrev s_first_other_than_nought:Stmt:=top 37
abbrev s_determinant_rest:Stmt:=top 38
abbrev s_greatest_of:Stmt:=top 39
abbrev s_determinant:Stmt:=top 40
abbrev s_looked_kinds:Stmt:=top 10
abbrev s_looked_length:Stmt:=top 11
abbrev s_letters:Stmt:=top 12
abbrev s_looked:Stmt:=top 13
abbrev s_row_windows:Stmt:=top 14
abbrev s_ring_windows:Stmt:=top 15
abbrev s_windows:Stmt:=top 16
abbrev s_looked_web:Stmt:=top 20
abbrev s_Web_init:Stmt:=inClass (top 21) 0
abbrev s_begin_of:Stmt:=top 22
abbrev s_end_of:Stmt:=top 23
abbrev s_is_turned_ring:Stmt:=top 25
abbrev s_is_ring:Stmt:=top 26
abbrev s_without:Stmt:=top 27
abbrev s_choice_row:Stmt:=top 42
abbrev s_choices_counted:Stmt:=top 43
abbrev s_is_even:Stmt:=top 45
abbrev s_by_begin:Stmt:=top 46
abbrev s_product_up_to:Stmt:=top 47
abbrev s_ways_on:Stmt:=top 48
abbrev s_way_by:Stmt:=top 49
abbrev s_way_number:Stmt:=top 50
abbrev s_ring_count:Stmt:=top 51
abbrev s_ring_by:Stmt:=top 52
abbrev s_ring_number:Stmt:=top 53
abbrev s__law_cell_at:Stmt:=top 55
abbrev s__law_whole:Stmt:=top 56
abbrev s__law_walk:Stmt:=top 57
abbrev s__law_ring_words:Stmt:=top 58
abbrev s__law_numbers:Stmt:=top 59
abbrev s__law_around:Stmt:=top 60
abbrev s__law_is_ring:Stmt:=top 61
abbrev s_law:Stmt:=top 62
theorem sc_further_times:FnScope ["place", "last", "times"] ["place", "last"] (defScope s_further_times):=⟨rfl,rfl,rfl,by decide +kernel,rfl,by decide +kernel,by decide +kernel⟩
theorem sc_inverse:FnScope ["number", "prime", "last", "rest", "last_times", "times", "quotient", "next_rest", "more_times"] ["number", "prime"] (defScope s_inverse):=⟨rfl,rfl,rfl,by decide +kernel,rfl,by decide +kernel,by decide +kernel⟩
theorem sc_lowered:FnScope ["row", "top", "back", "prime", "times"] ["row", "top", "back", "prime"] (defScope s_lowered):=⟨rfl,rfl,rfl,by decide +kernel,rfl,by decide +kernel,by decide +kernel⟩
def csc_lowered_0:Scope:={ kind:=PySem.ScopeKind.function,names:=[ (PySem.Str.ofString ".0",PySem.NameKind.local),(PySem.Str.ofString "number",PySem.NameKind.local),(PySem.Str.ofString "above",PySem.NameKind.local),(PySem.Str.ofString "times",PySem.NameKind.free)],isGenerator:=false,isCoroutine:=false,more:=[]:PySem.Scope }
theorem cs_lowered_0:CompSc2 ["row", "top", "back", "prime", "times"] ["number", "above", "row", "top", "back", "prime", "times"] (defScope s_lowered) csc_lowered_0 "number" "above" := ⟨rfl,by decide +kernel,by decide +kernel,rfl,rfl,by decide +kernel,rfl,rfl,rfl,by decide +kernel,rfl,by decide +kernel,by decide +kernel⟩
theorem sc_first_other_than_nought:FnScope ["numbers", "place", "number"] ["numbers"] (defScope s_first_other_than_nought):=⟨rfl,rfl,rfl,by decide +kernel,rfl,by decide +kernel,by decide +kernel⟩
theorem sc_determinant_rest:FnScope ["square", "prime", "rows", "rest", "place", "top", "back"] ["square", "prime"] (defScope s_determinant_rest):=⟨rfl,rfl,rfl,by decide +kernel,rfl,by decide +kernel,by decide +kernel⟩
def csc_determinant_rest_0:Scope:={ kind:=PySem.ScopeKind.function,names:=[ (PySem.Str.ofString ".0",PySem.NameKind.local),(PySem.Str.ofString "row",PySem.NameKind.local),(PySem.Str.ofString "prime",PySem.NameKind.free)],isGenerator:=false,isCoroutine:=false,more:=[]:PySem.Scope }
theorem cs_determinant_rest_0:CompSc ["square", "prime", "rows", "rest", "place", "top", "back"] ["row", "square", "prime", "rows", "rest", "place", "top", "back"] (defScope s_determinant_rest) csc_determinant_rest_0 "row" := ⟨rfl,by decide +kernel,by decide +kernel,rfl,by decide +kernel,rfl,rfl,by decide +kernel,rfl,by decide +kernel,by decide +kernel⟩
def csc_determinant_rest_1:Scope:={ kind:=PySem.ScopeKind.function,names:=[ (PySem.Str.ofString ".0",PySem.NameKind.local),(PySem.Str.ofString "number",PySem.NameKind.local),(PySem.Str.ofString "prime",PySem.NameKind.free)],isGenerator:=false,isCoroutine:=false,more:=[]:PySem.Scope }
theorem cs_determinant_rest_1:CompSc ["square", "prime", "rows", "rest", "place", "top", "back"] ["number", "square", "prime", "rows", "rest", "place", "top", "back"] (defScope s_determinant_rest) csc_determinant_rest_1 "number" := ⟨rfl,by decide +kernel,by decide +kernel,rfl,by decide +kernel,rfl,rfl,by decide +kernel,rfl,by decide +kernel,by decide +kernel⟩
def csc_determinant_rest_2:Scope:={ kind:=PySem.ScopeKind.function,names:=[ (PySem.Str.ofString ".0",PySem.NameKind.local),(PySem.Str.ofString "row",PySem.NameKind.local),(PySem.Str.ofString "lowered",PySem.NameKind.globalImplicit),(PySem.Str.ofString "back",PySem.NameKind.free),(PySem.Str.ofString "prime",PySem.NameKind.free),(PySem.Str.ofString "top",PySem.NameKind.free)],isGenerator:=false,isCoroutine:=false,more:=[]:PySem.Scope }
theorem cs_determinant_rest_2:CompSc ["square", "prime", "rows", "rest", "place", "top", "back"] ["row", "square", "prime", "rows", "rest", "place", "top", "back"] (defScope s_determinant_rest) csc_determinant_rest_2 "row" := ⟨rfl,by decide +kernel,by decide +kernel,rfl,by decide +kernel,rfl,rfl,by decide +kernel,rfl,by decide +kernel,by decide +kernel⟩
theorem sc_greatest_of:FnScope ["square", "bound", "row"] ["square"] (defScope s_greatest_of):=⟨rfl,rfl,rfl,by decide +kernel,rfl,by decide +kernel,by decide +kernel⟩
def csc_greatest_of_0:Scope:={ kind:=PySem.ScopeKind.function,names:=[ (PySem.Str.ofString ".0",PySem.NameKind.local),(PySem.Str.ofString "number",PySem.NameKind.local),(PySem.Str.ofString "abs",PySem.NameKind.globalImplicit)],isGenerator:=false,isCoroutine:=false,more:=[]:PySem.Scope }
theorem cs_greatest_of_0:CompSc ["square", "bound", "row"] ["number", "square", "bound", "row"] (defScope s_greatest_of) csc_greatest_of_0 "number" := ⟨rfl,by decide +kernel,by decide +kernel,rfl,by decide +kernel,rfl,rfl,by decide +kernel,rfl,by decide +kernel,by decide +kernel⟩
theorem sc_determinant:FnScope ["square", "bound", "result", "modulus", "place", "times", "prime", "lacking"] ["square"] (defScope s_determinant):=⟨rfl,rfl,rfl,by decide +kernel,rfl,by decide +kernel,by decide +kernel⟩
theorem sc_looked_kinds:FnScope ["kinds"] ["kinds"] (defScope s_looked_kinds):=⟨rfl,rfl,rfl,by decide +kernel,rfl,by decide +kernel,by decide +kernel⟩
theorem sc_looked_length:FnScope ["length", "kinds"] ["length", "kinds"] (defScope s_looked_length):=⟨rfl,rfl,rfl,by decide +kernel,rfl,by decide +kernel,by decide +kernel⟩
theorem sc_letters:FnScope ["kinds"] ["kinds"] (defScope s_letters):=⟨rfl,rfl,rfl,by decide +kernel,rfl,by decide +kernel,by decide +kernel⟩
theorem sc_looked:FnScope ["word", "kinds", "known", "sign"] ["word", "kinds"] (defScope s_looked):=⟨rfl,rfl,rfl,by decide +kernel,rfl,by decide +kernel,by decide +kernel⟩
theorem sc_row_windows:FnScope ["text", "length"] ["text", "length"] (defScope s_row_windows):=⟨rfl,rfl,rfl,by decide +kernel,rfl,by decide +kernel,by decide +kernel⟩
def csc_row_windows_0:Scope:={ kind:=PySem.ScopeKind.function,names:=[ (PySem.Str.ofString ".0",PySem.NameKind.local),(PySem.Str.ofString "place",PySem.NameKind.local),(PySem.Str.ofString "length",PySem.NameKind.free),(PySem.Str.ofString "text",PySem.NameKind.free)],isGenerator:=false,isCoroutine:=false,more:=[]:PySem.Scope }
theorem cs_row_windows_0:CompSc ["text", "length"] ["place", "text", "length"] (defScope s_row_windows) csc_row_windows_0 "place" := ⟨rfl,by decide +kernel,by decide +kernel,rfl,by decide +kernel,rfl,rfl,by decide +kernel,rfl,by decide +kernel,by decide +kernel⟩
theorem sc_ring_windows:FnScope ["text", "length", "size", "around"] ["text", "length"] (defScope s_ring_windows):=⟨rfl,rfl,rfl,by decide +kernel,rfl,by decide +kernel,by decide +kernel⟩
def csc_ring_windows_0:Scope:={ kind:=PySem.ScopeKind.function,names:=[ (PySem.Str.ofString ".0",PySem.NameKind.local),(PySem.Str.ofString "place",PySem.NameKind.local),(PySem.Str.ofString "around",PySem.NameKind.free),(PySem.Str.ofString "length",PySem.NameKind.free)],isGenerator:=false,isCoroutine:=false,more:=[]:PySem.Scope }
theorem cs_ring_windows_0:CompSc ["text", "length", "size", "around"] ["place", "text", "length", "size", "around"] (defScope s_ring_windows) csc_ring_windows_0 "place" := ⟨rfl,by decide +kernel,by decide +kernel,rfl,by decide +kernel,rfl,rfl,by decide +kernel,rfl,by decide +kernel,by decide +kernel⟩
theorem sc_windows:FnScope ["text", "length", "ring"] ["text", "length", "ring"] (defScope s_windows):=⟨rfl,rfl,rfl,by decide +kernel,rfl,by decide +kernel,by decide +kernel⟩
theorem sc_looked_web:FnScope ["words", "word"] ["words"] (defScope s_looked_web):=⟨rfl,rfl,rfl,by decide +kernel,rfl,by decide +kernel,by decide +kernel⟩
theorem sc_Web_init:FnScope ["self", "words"] ["self", "words"] (defScope s_Web_init):=⟨rfl,rfl,rfl,by decide +kernel,rfl,by decide +kernel,by decide +kernel⟩
theorem sc_begin_of:FnScope ["word"] ["word"] (defScope s_begin_of):=⟨rfl,rfl,rfl,by decide +kernel,rfl,by decide +kernel,by decide +kernel⟩
theorem sc_end_of:FnScope ["word"] ["word"] (defScope s_end_of):=⟨rfl,rfl,rfl,by decide +kernel,rfl,by decide +kernel,by decide +kernel⟩
theorem sc_is_turned_ring:FnScope ["web", "text"] ["web", "text"] (defScope s_is_turned_ring):=⟨rfl,rfl,rfl,by decide +kernel,rfl,by decide +kernel,by decide +kernel⟩
theorem sc_is_ring:FnScope ["web", "text"] ["web", "text"] (defScope s_is_ring):=⟨rfl,rfl,rfl,by decide +kernel,rfl,by decide +kernel,by decide +kernel⟩
theorem sc_without:FnScope ["words", "word"] ["words", "word"] (defScope s_without):=⟨rfl,rfl,rfl,by decide +kernel,rfl,by decide +kernel,by decide +kernel⟩
def csc_without_0:Scope:={ kind:=PySem.ScopeKind.function,names:=[ (PySem.Str.ofString ".0",PySem.NameKind.local),(PySem.Str.ofString "other",PySem.NameKind.local),(PySem.Str.ofString "word",PySem.NameKind.free)],isGenerator:=false,isCoroutine:=false,more:=[]:PySem.Scope }
theorem cs_without_0:CompSc ["words", "word"] ["other", "words", "word"] (defScope s_without) csc_without_0 "other" := ⟨rfl,by decide +kernel,by decide +kernel,rfl,by decide +kernel,rfl,rfl,by decide +kernel,rfl,by decide +kernel,by decide +kernel⟩
theorem sc_choice_row:FnScope ["texts", "text", "words", "ends"] ["texts", "text", "words"] (defScope s_choice_row):=⟨rfl,rfl,rfl,by decide +kernel,rfl,by decide +kernel,by decide +kernel⟩
def csc_choice_row_0:Scope:={ kind:=PySem.ScopeKind.function,names:=[ (PySem.Str.ofString ".0",PySem.NameKind.local),(PySem.Str.ofString "word",PySem.NameKind.local),(PySem.Str.ofString "end_of",PySem.NameKind.globalImplicit)],isGenerator:=false,isCoroutine:=false,more:=[]:PySem.Scope }
theorem cs_choice_row_0:CompSc ["texts", "text", "words", "ends"] ["word", "texts", "text", "words", "ends"] (defScope s_choice_row) csc_choice_row_0 "word" := ⟨rfl,by decide +kernel,by decide +kernel,rfl,by decide +kernel,rfl,rfl,by decide +kernel,rfl,by decide +kernel,by decide +kernel⟩
def csc_choice_row_1:Scope:={ kind:=PySem.ScopeKind.function,names:=[ (PySem.Str.ofString ".0",PySem.NameKind.local),(PySem.Str.ofString "other",PySem.NameKind.local),(PySem.Str.ofString "len",PySem.NameKind.globalImplicit),(PySem.Str.ofString "ends",PySem.NameKind.free),(PySem.Str.ofString "text",PySem.NameKind.free)],isGenerator:=false,isCoroutine:=false,more:=[]:PySem.Scope }
theorem cs_choice_row_1:CompSc ["texts", "text", "words", "ends"] ["other", "texts", "text", "words", "ends"] (defScope s_choice_row) csc_choice_row_1 "other" := ⟨rfl,by decide +kernel,by decide +kernel,rfl,by decide +kernel,rfl,rfl,by decide +kernel,rfl,by decide +kernel,by decide +kernel⟩
theorem sc_choices_counted:FnScope ["ways", "texts"] ["ways"] (defScope s_choices_counted):=⟨rfl,rfl,rfl,by decide +kernel,rfl,by decide +kernel,by decide +kernel⟩
def csc_choices_counted_0:Scope:={ kind:=PySem.ScopeKind.function,names:=[ (PySem.Str.ofString ".0",PySem.NameKind.local),(PySem.Str.ofString "text",PySem.NameKind.local),(PySem.Str.ofString "choice_row",PySem.NameKind.globalImplicit),(PySem.Str.ofString "texts",PySem.NameKind.free),(PySem.Str.ofString "ways",PySem.NameKind.free)],isGenerator:=false,isCoroutine:=false,more:=[]:PySem.Scope }
theorem cs_choices_counted_0:CompSc ["ways", "texts"] ["text", "ways", "texts"] (defScope s_choices_counted) csc_choices_counted_0 "text" := ⟨rfl,by decide +kernel,by decide +kernel,rfl,by decide +kernel,rfl,rfl,by decide +kernel,rfl,by decide +kernel,by decide +kernel⟩
theorem sc_is_even:FnScope ["words", "one", "other", "begins", "ends"] ["words", "one", "other"] (defScope s_is_even):=⟨rfl,rfl,rfl,by decide +kernel,rfl,by decide +kernel,by decide +kernel⟩
def csc_is_even_0:Scope:={ kind:=PySem.ScopeKind.function,names:=[ (PySem.Str.ofString ".0",PySem.NameKind.local),(PySem.Str.ofString "word",PySem.NameKind.local),(PySem.Str.ofString "begin_of",PySem.NameKind.globalImplicit)],isGenerator:=false,isCoroutine:=false,more:=[]:PySem.Scope }
theorem cs_is_even_0:CompSc ["words", "one", "other", "begins", "ends"] ["word", "words", "one", "other", "begins", "ends"] (defScope s_is_even) csc_is_even_0 "word" := ⟨rfl,by decide +kernel,by decide +kernel,rfl,by decide +kernel,rfl,rfl,by decide +kernel,rfl,by decide +kernel,by decide +kernel⟩
def csc_is_even_1:Scope:={ kind:=PySem.ScopeKind.function,names:=[ (PySem.Str.ofString ".0",PySem.NameKind.local),(PySem.Str.ofString "word",PySem.NameKind.local),(PySem.Str.ofString "end_of",PySem.NameKind.globalImplicit)],isGenerator:=false,isCoroutine:=false,more:=[]:PySem.Scope }
theorem cs_is_even_1:CompSc ["words", "one", "other", "begins", "ends"] ["word", "words", "one", "other", "begins", "ends"] (defScope s_is_even) csc_is_even_1 "word" := ⟨rfl,by decide +kernel,by decide +kernel,rfl,by decide +kernel,rfl,rfl,by decide +kernel,rfl,by decide +kernel,by decide +kernel⟩
theorem sc_by_begin:FnScope ["words", "ways", "word"] ["words"] (defScope s_by_begin):=⟨rfl,rfl,rfl,by decide +kernel,rfl,by decide +kernel,by decide +kernel⟩
theorem sc_product_up_to:FnScope ["many", "product", "factor"] ["many"] (defScope s_product_up_to):=⟨rfl,rfl,rfl,by decide +kernel,rfl,by decide +kernel,by decide +kernel⟩
theorem sc_ways_on:FnScope ["words", "one", "other", "ways", "orders", "text"] ["words", "one", "other"] (defScope s_ways_on):=⟨rfl,rfl,rfl,by decide +kernel,rfl,by decide +kernel,by decide +kernel⟩
theorem sc_way_by:FnScope ["words", "one", "other", "number", "text", "at", "left", "ahead", "word", "many"] ["words", "one", "other", "number"] (defScope s_way_by):=⟨rfl,rfl,rfl,by decide +kernel,rfl,by decide +kernel,by decide +kernel⟩
theorem sc_way_number:FnScope ["words", "order", "other", "number", "left", "word", "lesser"] ["words", "order", "other"] (defScope s_way_number):=⟨rfl,rfl,rfl,by decide +kernel,rfl,by decide +kernel,by decide +kernel⟩
theorem sc_ring_count:FnScope ["web", "least"] ["web"] (defScope s_ring_count):=⟨rfl,rfl,rfl,by decide +kernel,rfl,by decide +kernel,by decide +kernel⟩
theorem sc_ring_by:FnScope ["web", "number", "least", "row"] ["web", "number"] (defScope s_ring_by):=⟨rfl,rfl,rfl,by decide +kernel,rfl,by decide +kernel,by decide +kernel⟩
theorem sc_ring_number:FnScope ["web", "ring"] ["web", "ring"] (defScope s_ring_number):=⟨rfl,rfl,rfl,by decide +kernel,rfl,by decide +kernel,by decide +kernel⟩
theorem sc__law_cell_at:FnScope ["script", "k"] ["script", "k"] (defScope s__law_cell_at):=⟨rfl,rfl,rfl,by decide +kernel,rfl,by decide +kernel,by decide +kernel⟩
theorem sc__law_whole:FnScope ["found", "due"] ["found", "due"] (defScope s__law_whole):=⟨rfl,rfl,rfl,by decide +kernel,rfl,by decide +kernel,by decide +kernel⟩
theorem sc__law_walk:FnScope ["cells", "kinds", "first", "words", "here", "cell", "free", "word"] ["cells", "kinds", "first"] (defScope s__law_walk):=⟨rfl,rfl,rfl,by decide +kernel,rfl,by decide +kernel,by decide +kernel⟩
def csc__law_walk_0:Scope:={ kind:=PySem.ScopeKind.function,names:=[ (PySem.Str.ofString ".0",PySem.NameKind.local),(PySem.Str.ofString "sign",PySem.NameKind.local),(PySem.Str.ofString "here",PySem.NameKind.free),(PySem.Str.ofString "words",PySem.NameKind.free)],isGenerator:=false,isCoroutine:=false,more:=[]:PySem.Scope }
theorem cs__law_walk_0:CompSc ["cells", "kinds", "first", "words", "here", "cell", "free", "word"] ["sign", "cells", "kinds", "first", "words", "here", "cell", "free", "word"] (defScope s__law_walk) csc__law_walk_0 "sign" := ⟨rfl,by decide +kernel,by decide +kernel,rfl,by decide +kernel,rfl,rfl,by decide +kernel,rfl,by decide +kernel,by decide +kernel⟩
theorem sc__law_ring_words:FnScope ["script", "at", "most", "length", "kinds", "drawn", "first", "k", "words"] ["script", "at", "most"] (defScope s__law_ring_words):=⟨rfl,rfl,rfl,by decide +kernel,rfl,by decide +kernel,by decide +kernel⟩
theorem sc__law_numbers:FnScope ["script", "many", "made", "found", "cell"] ["script", "many"] (defScope s__law_numbers):=⟨rfl,rfl,rfl,by decide +kernel,rfl,by decide +kernel,by decide +kernel⟩
theorem sc__law_around:FnScope ["text", "length", "found", "k", "word", "j"] ["text", "length"] (defScope s__law_around):=⟨rfl,rfl,rfl,by decide +kernel,rfl,by decide +kernel,by decide +kernel⟩
theorem sc__law_is_ring:FnScope ["words", "text", "found"] ["words", "text"] (defScope s__law_is_ring):=⟨rfl,rfl,rfl,by decide +kernel,rfl,by decide +kernel,by decide +kernel⟩
theorem sc_law:FnScope ["script", "words", "web", "many", "before", "number", "ring", "at", "mine"] ["script"] (defScope s_law):=⟨rfl,rfl,rfl,by decide +kernel,rfl,by decide +kernel,by decide +kernel⟩
def csc_law_0:Scope:={ kind:=PySem.ScopeKind.function,names:=[(PySem.Str.ofString ".0",PySem.NameKind.local),(PySem.Str.ofString "word",PySem.NameKind.local)],isGenerator:=false,isCoroutine:=false,more:=[]:PySem.Scope }
theorem cs_law_0:CompSc ["script", "words", "web", "many", "before", "number", "ring", "at", "mine"] ["word", "script", "words", "web", "many", "before", "number", "ring", "at", "mine"] (defScope s_law) csc_law_0 "word" := ⟨rfl,by decide +kernel,by decide +kernel,rfl,by decide +kernel,rfl,rfl,by decide +kernel,rfl,by decide +kernel,by decide +kernel⟩
set_option genInjectivity false in
structure Adr where
 BadKinds:Addr
 BadWord:Addr
 TooMany:Addr
 NoSuch:Addr
 NotOne:Addr
 Web:Addr
 KNOWN_TIMES:Addr
 u_FIRST_PRIME:Value
 u_STEP:Value
 u_LETTERS:Value
 u_LONGEST:Value
 u_MOST_OF_A_WEB:Value
 u_LONGEST_OF_A_WEB:Value
set_option genInjectivity false in
structure Txt (K:PySem.W.Frag)(mg:Str->Option Value)(ad:Adr):Prop where
 b_abs:mg "abs" = none
 b_bool:mg "bool" = none
 b_enumerate:mg "enumerate" = none
 b_int:mg "int" = none
 b_isinstance:mg "isinstance" = none
 b_len:mg "len" = none
 b_list:mg "list" = none
 b_min:mg "min" = none
 b_range:mg "range" = none
 b_set:mg "set" = none
 b_sorted:mg "sorted" = none
 b_str:mg "str" = none
 b_sum:mg "sum" = none
 b_tuple:mg "tuple" = none
 b_zip:mg "zip" = none
 m_BadKinds:mg "BadKinds" = some (.ref ad.BadKinds)
 m_BadWord:mg "BadWord" = some (.ref ad.BadWord)
 m_TooMany:mg "TooMany" = some (.ref ad.TooMany)
 m_NoSuch:mg "NoSuch" = some (.ref ad.NoSuch)
 m_NotOne:mg "NotOne" = some (.ref ad.NotOne)
 m_Web:mg "Web" = some (.ref ad.Web)
 m_KNOWN_TIMES:mg "KNOWN_TIMES" = some (.ref ad.KNOWN_TIMES)
 x_BadKinds:Exc K mg "BadKinds" ad.BadKinds
 x_BadWord:Exc K mg "BadWord" ad.BadWord
 x_TooMany:Exc K mg "TooMany" ad.TooMany
 x_NoSuch:Exc K mg "NoSuch" ad.NoSuch
 x_NotOne:Exc K mg "NotOne" ad.NotOne
 g_FIRST_PRIME:mg "FIRST_PRIME" = some ad.u_FIRST_PRIME
 r_FIRST_PRIME:RelV (.int 2305843009213693951) ad.u_FIRST_PRIME
 g_STEP:mg "STEP" = some ad.u_STEP
 r_STEP:RelV (.int 6277101735386680763835789423207666416102355444464034512896) ad.u_STEP
 g_LETTERS:mg "LETTERS" = some ad.u_LETTERS
 r_LETTERS:RelV (T [97,98,99,100,101,102]) ad.u_LETTERS
 g_LONGEST:mg "LONGEST" = some ad.u_LONGEST
 r_LONGEST:RelV (.int 24) ad.u_LONGEST
 g_MOST_OF_A_WEB:mg "MOST_OF_A_WEB" = some ad.u_MOST_OF_A_WEB
 r_MOST_OF_A_WEB:RelV (.int 64) ad.u_MOST_OF_A_WEB
 g_LONGEST_OF_A_WEB:mg "LONGEST_OF_A_WEB" = some ad.u_LONGEST_OF_A_WEB
 r_LONGEST_OF_A_WEB:RelV (.int 8) ad.u_LONGEST_OF_A_WEB
 kt:tupIs K ad.KNOWN_TIMES [133,211,598,652,721,850,1282,1417,1582,1681,1726,1837,1885,2017,2377,2383,2452,2476,2530,2611,2662,2698,2773,2878,2917,2980,2998,3082,3238,3250,3343,3421,3427,3670,3817,4162,4252,4447,4468,4621,4630,4747,4867,4891,4915,5128,5143,5236,5401,5587,5650,5803,5833,5923,5986,6202,6235,6286,6496,6526,6736,7093,7561,7696,7831,7855,7882,7927,8143,8248]=true
 cl_Web:Cls K ad.Web
 na_Web_words:NoAttr K ad.Web "words"
 na_Web_length:NoAttr K ad.Web "length"
theorem cxK2 {CX:CXT}{P:Program}{w:World}{K:PySem.W.Frag}{mg:Str->Option Value}{base:Heap}{N:List Str}{q:Str}{sc:Scope}{f:Addr}{cdv:Value}{A:Around}{outer:List Env}{s:Shared}{H:Hp}{E:XK}:(cxOf CX P w K mg base N q sc f cdv A outer s H E).nox.K=K:=rfl
section
variable {P:Program}{w:World}{K:PySem.W.Frag}{mg:Str->Option Value}{base:Heap}{ad:Adr}
theorem abc6 {m:Nat}(h:m<6):([97,98,99,100,101,102]:List Nat)[m]?=some (97+m):=by
 have key:∀ m:Nat,m<6->([97,98,99,100,101,102]:List Nat)[m]?=some (97+m):=by decide
 exact key m h
theorem abc_mem {k c:Nat}(hk:k<=6):c∈([97,98,99,100,101,102]:List Nat).take k↔97<=c∧c<97+k:=by
 have key:∀ k:Nat,k<7->([97,98,99,100,101,102]:List Nat).take k=(List.range k).map (97 + ·):=by decide
 rw [key k (Nat.lt_succ_of_le hk),List.mem_map]
 exact ⟨fun ⟨i,h,e⟩=>e▸⟨Nat.le_add_right _ _,Nat.add_lt_add_left (List.mem_range.mp h) _⟩,fun ⟨h1,h2⟩=>⟨c-97,List.mem_range.mpr (Nat.sub_lt_left_of_lt_add h1 h2),Nat.add_sub_cancel' h1⟩⟩
def spKindsX (ad:Adr):Sp:=fun vs H Q E=>∃ k:Int,vs=[.int k]∧((1<=k∧k<=6)->Q .non H)∧(¬ (1<=k∧k<=6)->E (.ref ad.BadKinds) none H)
theorem ok_looked_kinds {f:Addr}{fd:FuncData}(F:Fun K "looked_kinds" "looked_kinds" s_looked_kinds f fd)(tt:Txt K mg ad):FnOk P w K mg base (CX1 P w) 1 f fd ["kinds"] (spKindsX ad):=by
 refine F.okX sc_looked_kinds (fun vs H Q E h=>?_) (fun cdv A outer s H vs Q E hr h=>?_)
 ·obtain ⟨k,rfl,_⟩:=h
  rfl
 ·obtain ⟨k,rfl,q,x⟩:=h
  have hs:sizeLine=16777216:=sizeLine_eq
  refine ⟨_,(pss_one (ps_if (PW.pt (pw_or (pt_cmpR op_lt (pv 0) pe_int (nomark _)) (pw_or1 (pt_cmpR op_gt (pv 0) (pe_callB call_len_T (by rfl) tt.b_len PySem.boot_len (pa_cons (pe_glob (by rfl) tt.g_LETTERS tt.r_LETTERS) pa_nil)) (nomark _))))) (pss_one (ps_raise (E:=fun cls H'=>E cls none H') tt.x_BadKinds rfl (fun _ _ _ _ _ _ _ I hx q=>raiseX I hx q) (pa_cons (pe_strT [107,105,110,100,115,32,97,114,101,32,97,32,119,104,111,108,101,32,110,117,109,98,101,114,32,102,114,111,109,32,49,32,116,111,32,54] (by decide +kernel)) pa_nil))) pss_nil)),?_⟩
  (try rw [cxK2]);(try rw [cxK1])
  refine ⟨_,rfl,_,_,rfl,rfl,_,rfl,?_⟩
  refine ite2 (fun h0=>iteT ?_) (fun h0=>?_)
  ·have h1:k<1:=of_decide_eq_true h0
   exact ⟨(by show 1<=sizeLine;omega),x fun z=>by omega⟩
  ·have h1:¬ k<1:=fun z=>h0 (decide_eq_true z)
   refine ⟨_,rfl,_,rfl,(by show 6<=sizeLine;omega),_,_,rfl,rfl,_,rfl,?_⟩
   refine ite2 (fun h2=>?_) (fun h2=>?_)
   ·have h3:(6:Int)<k:=of_decide_eq_true h2
    exact ⟨(by show 1<=sizeLine;omega),x fun z=>by omega⟩
   ·have h3:¬ (6:Int)<k:=fun z=>h2 (decide_eq_true z)
    exact q ⟨by omega,by omega⟩
def spLenX (ad:Adr):Sp:=fun vs H Q E=>∃ n k:Int,vs=[.int n,.int k]∧((1<=k∧k<=6)->(1<=n∧n<=24)->Q .non H)∧(¬ (1<=k∧k<=6)->E (.ref ad.BadKinds) none H)∧((1<=k∧k<=6)->¬ (1<=n∧n<=24)->E (.ref ad.BadWord) none H)
theorem ok_looked_length {f:Addr}{fd:FuncData}(F:Fun K "looked_length" "looked_length" s_looked_length f fd)(tt:Txt K mg ad)(C_looked_kinds:Cal P w K mg base (CX1 P w) "looked_kinds" 1 ["kinds"] (spKindsX ad)) :
  FnOk P w K mg base (CX1 P w) 2 f fd ["length", "kinds"] (spLenX ad):=by
 refine F.okX sc_looked_length (fun vs H Q E h=>?_) (fun cdv A outer s H vs Q E hr h=>?_)
 ·obtain ⟨n,k,rfl,_⟩:=h
  rfl
 ·obtain ⟨n,k,rfl,q,x1,x2⟩:=h
  have hs:sizeLine=16777216:=sizeLine_eq
  refine ⟨_,(pss_cons (ps_expr (pe_cal C_looked_kinds hr passX (pa_cons (pv 1) pa_nil)))
   (pss_one (ps_if (PW.pt (pw_or (pt_cmpR op_lt (pv 0) pe_int (nomark _)) (pw_or1 (pt_cmpR op_gt (pv 0) (pe_glob (by rfl) tt.g_LONGEST tt.r_LONGEST) (nomark _))))) (pss_one (ps_raise (E:=fun cls H'=>E cls none H') tt.x_BadWord rfl (fun _ _ _ _ _ _ _ I hx q=>raiseX I hx q) (pa_cons (pe_strT [97,32,119,111,114,100,32,104,97,115,32,49,32,116,111,32,50,52,32,108,101,116,116,101,114,115] (by decide +kernel)) pa_nil))) pss_nil))),?_⟩
  (try rw [cxK2]);(try rw [cxK1])
  refine ⟨_,rfl,k,rfl,fun hk=>?_,x1⟩
  refine ⟨_,rfl,_,_,rfl,rfl,_,rfl,?_⟩
  refine ite2 (fun h0=>iteT ?_) (fun h0=>?_)
  ·have h1:n<1:=of_decide_eq_true h0
   exact ⟨(by show 1<=sizeLine;omega),x2 hk fun z=>by omega⟩
  ·have h1:¬ n<1:=fun z=>h0 (decide_eq_true z)
   refine ⟨_,rfl,_,_,rfl,rfl,_,rfl,?_⟩
   refine ite2 (fun h2=>?_) (fun h2=>?_)
   ·have h3:(24:Int)<n:=of_decide_eq_true h2
    exact ⟨(by show 1<=sizeLine;omega),x2 hk fun z=>by omega⟩
   ·have h3:¬ (24:Int)<n:=fun z=>h2 (decide_eq_true z)
    exact q hk ⟨by omega,by omega⟩
def spLettersX (ad:Adr):Sp:=fun vs H Q E=>∃ k:Int,vs=[.int k]∧(∀ kn:Nat,k=(kn:Nat)->(1<=kn∧kn<=6)->Q (T (([97,98,99,100,101,102]:List Nat).take kn)) H)∧(¬ (1<=k∧k<=6)->E (.ref ad.BadKinds) none H)
theorem ok_letters {f:Addr}{fd:FuncData}(F:Fun K "letters" "letters" s_letters f fd)(tt:Txt K mg ad)(C_looked_kinds:Cal P w K mg base (CX1 P w) "looked_kinds" 1 ["kinds"] (spKindsX ad)):FnOk P w K mg base (CX1 P w) 2 f fd ["kinds"] (spLettersX ad):=by
 refine F.okX sc_letters (fun vs H Q E h=>?_) (fun cdv A outer s H vs Q E hr h=>?_)
 ·obtain ⟨k,rfl,_⟩:=h
  rfl
 ·obtain ⟨k,rfl,q,x⟩:=h
  have hs:sizeLine=16777216:=sizeLine_eq
  refine ⟨_,(pss_cons (ps_expr (pe_cal C_looked_kinds hr passX (pa_cons (pv 0) pa_nil)))
   (pss_one (ps_ret (pe_slice sl_T (pe_glob (by rfl) tt.g_LETTERS tt.r_LETTERS) po_none (po_some (pv 0)))))),?_⟩
  (try rw [cxK2]);(try rw [cxK1])
  refine ⟨_,rfl,k,rfl,fun hk=>?_,x⟩
  obtain ⟨kn,rfl⟩:∃ kn:Nat,k=(kn:Nat):=⟨k.toNat,by omega⟩
  refine ⟨_,rfl,_,rfl,_,rfl,(by show 6<=sizeLine;omega),?_⟩
  rw [cutL_to (by show kn<=6;omega)]
  exact q kn rfl ⟨by omega,by omega⟩
def Good (w:List Nat)(kn:Nat):Prop:=(1<=w.length∧w.length<=24)∧∀ c∈w,97<=c∧c<97+kn
def spLookedX (ad:Adr):Sp:=fun vs H Q E=>∃ (w:List Nat) (k:Int),vs=[T w,.int k]∧w.length<=100000∧(¬ (1<=k∧k<=6)->E (.ref ad.BadKinds) none H) ∧
 ∀ kn:Nat,k=(kn:Nat)->(1<=kn∧kn<=6)->(Good w kn->Q .non H)∧(¬ Good w kn->E (.ref ad.BadWord) none H)
theorem ok_looked {f:Addr}{fd:FuncData}(F:Fun K "looked" "looked" s_looked f fd)(tt:Txt K mg ad)(C_looked_length:Cal P w K mg base (CX1 P w) "looked_length" 2 ["length", "kinds"] (spLenX ad))
  (C_letters:Cal P w K mg base (CX1 P w) "letters" 2 ["kinds"] (spLettersX ad)):FnOk P w K mg base (CX1 P w) 3 f fd ["word", "kinds"] (spLookedX ad):=by
 refine F.okX sc_looked (fun vs H Q E h=>?_) (fun cdv A outer s H vs Q E hr h=>?_)
 ·obtain ⟨w,k,rfl,_⟩:=h
  rfl
 ·obtain ⟨w,k,rfl,hw,x1,q⟩:=h
  have hs:sizeLine=16777216:=sizeLine_eq
  refine ⟨_,(pss_cons (ps_expr (pe_cal C_looked_length hr passX (pa_cons (pe_callB call_len_T (by rfl) tt.b_len PySem.boot_len (pa_cons (pv 0) pa_nil)) (pa_cons (pv 1) pa_nil))))
   (pss_cons (ps_set (i:=2) sc_looked.nd rfl (Or.inl rfl) (pe_cal C_letters hr passX (pa_cons (pv 1) pa_nil)))
   (pss_one (ps_for PassesOwn.leaving rfl (pi_str (pv 0)) (pg_name (i:=3) sc_looked.nd rfl (Or.inl rfl)) (pss_one (ps_if (pt_cmpR op_notin_sT (pv 3) (pv 2) (by with_unfolding_all rfl)) (pss_one (ps_raise (E:=fun cls H'=>E cls none H') tt.x_BadWord rfl (fun _ _ _ _ _ _ _ I hx q=>raiseX I hx q) (pa_cons (pe_strT [97,32,119,111,114,100,32,104,97,115,32,108,101,116,116,101,114,115,32,111,102,32,105,116,115,32,107,105,110,100,115,32,97,108,111,110,101] (by decide +kernel)) pa_nil))) pss_nil)))))),?_⟩
  (try rw [cxK2]);(try rw [cxK1])
  refine ⟨_,rfl,_,rfl,(by omega),_,rfl,_,k,rfl,fun hk hn=>?_,x1,fun hk hn=>?_⟩
  rotate_left
  ·obtain ⟨kn,rfl⟩:∃ kn:Nat,k=(kn:Nat):=⟨k.toNat,by omega⟩
   exact (q kn rfl ⟨by omega,by omega⟩).2 fun z=>hn ⟨by have:=z.1;omega,by have:=z.1;omega⟩
  obtain ⟨kn,rfl⟩:∃ kn:Nat,k=(kn:Nat):=⟨k.toNat,by omega⟩
  obtain ⟨q1,q2⟩:=q kn rfl ⟨by omega,by omega⟩
  refine ⟨_,rfl,_,rfl,fun kn' ek hk'=>?_,fun z=>absurd hk z⟩
  obtain rfl:kn=kn':=by omega
  refine ⟨_,rfl,_,rfl,?_⟩
  refine for_text (l:=w) (fun i σ H2=>H=H2∧(∀ c∈w.take i,97<=c∧c<97+kn)∧∃ v,σ=[some (T w),some (.int (kn:Nat)),some (T (([97,98,99,100,101,102]:List Nat).take kn)),v]) ⟨rfl,fun c hc=>(by simp at hc),none,rfl⟩ ?_ ?_
  ·rintro i c σ H2 hi ⟨rfl,hall,v,rfl⟩
   refine ⟨_,rfl,_,rfl,_,rfl,_,rfl,_,rfl,?_⟩
   refine ite2 (fun h0=>?_) (fun h0=>?_)
   ·have h1:¬ c∈([97,98,99,100,101,102]:List Nat).take kn:=fun z=>by
     rw [decide_eq_true z] at h0
     cases h0
    refine ⟨(by show 1<=sizeLine;omega),q2 fun z=>h1 ?_⟩
    exact (abc_mem (by omega)).mpr (z.2 c (List.mem_of_getElem? hi))
   ·have h1:c∈([97,98,99,100,101,102]:List Nat).take kn:=by
     apply Classical.byContradiction
     intro z
     rw [decide_eq_false z] at h0
     exact h0 rfl
    refine ⟨rfl,fun d hd=>?_,_,rfl⟩
    have hil:=(List.getElem?_eq_some_iff.mp hi).1
    rw [List.take_add_one,hi] at hd
    rcases List.mem_append.mp hd with z | z
    ·exact hall d z
    ·have:d=c:=by simpa using z
     subst this
     exact (abc_mem (by omega)).mp h1
  ·rintro σ H2 ⟨rfl,hall,v,rfl⟩
   rw [List.take_length] at hall
   exact q1 ⟨⟨by omega,by omega⟩,hall⟩
def spRowW:Sp:=fun vs H Q _=>∃ (t:List Nat) (n:Nat),vs=[T t,.int (n:Nat)]∧(t.length<=5000∧1<=n∧n<=5000)∧∀ D H',H D=none->Same H H'->H' D=some (.lst ((Wd.rowW t n).map T))->Q (.ref D) H'
theorem ok_row_windows {f:Addr}{fd:FuncData}(F:Fun K "row_windows" "row_windows" s_row_windows f fd)(tt:Txt K mg ad):FnOk P w K mg base (CX1 P w) 1 f fd ["text", "length"] spRowW:=by
 refine F.okN sc_row_windows (fun vs H Q E h=>?_) (fun cdv A outer s H vs Q E hr h=>?_)
 ·obtain ⟨t,n,rfl,_⟩:=h
  rfl
 ·obtain ⟨t,n,rfl,hn,q⟩:=h
  have hs:sizeLine=16777216:=sizeLine_eq
  refine ⟨_,(pss_one (ps_ret (pe_comp cs_row_windows_0 rfl (pi_range1 (by rfl) tt.b_range (pa_cons (pe_op op_add (pe_op op_sub (pe_callB call_len_T (by rfl) tt.b_len PySem.boot_len (pa_cons (pv 0) pa_nil)) (pv 1)) pe_int) pa_nil)) (fun cl C s' H' fp=>(pe_slice sl_T (pv 1) (po_some (pv 0)) (po_some (pe_op op_add (pv 0) (pv 2)))))))),?_⟩
  (try rw [cxK2]);(try rw [cxK1])
  refine ⟨_,rfl,_,rfl,(by omega),_,rfl,_,_,rfl,rfl,_,_,rfl,rfl,_,rfl,by omega,by omega,?_⟩
  have en:(((t.length:Nat):Int)-((n:Nat):Int)+1).toNat=t.length+1-n:=by omega
  rw [en]
  refine comp_range (lo:=0) (n:=t.length+1-n) (fun i=>T (Wd.ringAt t n i)) (by omega) (fun i H4 hi s4 N hN=>?_) fun D H4 hD s4 hd4=>?_
  ·refine ⟨_,rfl,_,rfl,_,rfl,_,rfl,_,rfl,_,_,rfl,rfl,_,rfl,_,rfl,by omega,?_⟩
   have e:cutL t (some (0+(i:Int))) (some (0+(i:Int)+((n:Nat):Int)))=Wd.ringAt t n i:=by
    rw [Int.zero_add,<- Int.natCast_add,cutL_mid (by omega) (by omega),Nat.add_sub_cancel_left]
    exact Wd.row_at (by omega)
   rw [e]
   exact hN H4 (Same.refl _)
  ·exact q D H4 hD s4 (by rw [hd4,Wd.rowW,List.map_map];rfl)
def spRingW:Sp:=fun vs H Q _=>∃ (t:List Nat) (n:Nat),vs=[T t,.int (n:Nat)]∧(t.length<=5000∧1<=n∧n<=5000)∧∀ D H',H D=none->Same H H'->H' D=some (.lst ((Wd.ringW t n).map T))->Q (.ref D) H'
theorem ok_ring_windows {f:Addr}{fd:FuncData}(F:Fun K "ring_windows" "ring_windows" s_ring_windows f fd)(tt:Txt K mg ad):FnOk P w K mg base (CX1 P w) 1 f fd ["text", "length"] spRingW:=by
 refine F.okN sc_ring_windows (fun vs H Q E h=>?_) (fun cdv A outer s H vs Q E hr h=>?_)
 ·obtain ⟨t,n,rfl,_⟩:=h
  rfl
 ·obtain ⟨t,n,rfl,hn,q⟩:=h
  have hs:sizeLine=16777216:=sizeLine_eq
  refine ⟨_,(pss_cons (ps_if (pt_cmpR op_eq_T (pv 0) (pe_strT [] (by decide +kernel)) (nomark _)) (pss_one (ps_ret (pe_lst pa_nil))) pss_nil)
   (pss_cons (ps_set (i:=2) sc_ring_windows.nd rfl (Or.inl rfl) (pe_callB call_len_T (by rfl) tt.b_len PySem.boot_len (pa_cons (pv 0) pa_nil)))
   (pss_cons (ps_set (i:=3) sc_ring_windows.nd rfl (Or.inr rfl) (pe_op op_mul_T (pv 0) (pe_op op_add (pe_op op_fdiv (pv 1) (pv 2)) pe_int)))
   (pss_one (ps_ret (pe_comp cs_ring_windows_0 rfl (pi_range1 (by rfl) tt.b_range (pa_cons (pv 2) pa_nil)) (fun cl C s' H' fp=>(pe_slice sl_T (pv 4) (po_some (pv 0)) (po_some (pe_op op_add (pv 0) (pv 2))))))))))),?_⟩
  (try rw [cxK2]);(try rw [cxK1])
  refine ⟨_,rfl,_,rfl,_,rfl,_,rfl,?_⟩
  refine ite2 (fun h0=>?_) (fun h0=>?_)
  ·have e:t=[]:=of_decide_eq_true h0
   subst e
   exact ⟨(by show 0<=sizeLine;omega),fun D hD=>q D _ hD (fun b o e=>by rw [upd_ne (ne_of_none e hD)];exact e) upd_same⟩
  ·have hne:t≠[]:=fun z=>h0 (decide_eq_true z)
   have hp:0<t.length:=List.length_pos_iff.mpr hne
   have hdv:((n:Nat):Int)/((t.length:Nat):Int)+2=((n/t.length+2:Nat):Int):=by rw [<- Int.natCast_ediv];rfl
   have hdm:n/t.length*t.length+n % t.length=n:=by rw [Nat.mul_comm];exact Nat.div_add_mod n t.length
   have hml:=Nat.mod_lt n hp
   have hdl:n/t.length<=n:=Nat.div_le_self _ _
   have hcl:(n/t.length+2)*t.length=n/t.length*t.length+2*t.length:=by rw [Nat.add_mul]
   refine ⟨_,rfl,_,rfl,(by omega),?_⟩
   refine ⟨_,rfl,_,rfl,_,rfl,_,_,rfl,rfl,⟨by omega,by omega⟩,_,_,rfl,rfl,_,rfl,n/t.length+2,congrArg V.int hdv,⟨by omega,by omega⟩,?_⟩
   refine ⟨_,rfl,_,rfl,by omega,by omega,?_⟩
   rw [Int.toNat_natCast]
   refine comp_range (lo:=0) (n:=t.length) (fun i=>T (Wd.ringAt t n i)) (by omega) (fun i H4 hi s4 N hN=>?_) fun D H4 hD s4 hd4=>?_
   ·refine ⟨_,rfl,_,rfl,_,rfl,_,rfl,_,rfl,_,_,rfl,rfl,_,rfl,_,rfl,(by rw [Wd.rep_len];omega),?_⟩
    have e:cutL (Wd.rep (n/t.length+2) t) (some (0+(i:Int))) (some (0+(i:Int)+((n:Nat):Int)))=Wd.ringAt t n i:=by
     rw [show 0+(i:Int)+((n:Nat):Int)=((i+n:Nat):Int) by omega,Int.zero_add,cutL_mid (by rw [Wd.rep_len];omega) (by omega),show i+n-i=n by omega]
     exact Wd.ring_at (by omega) hp
    rw [e]
    exact hN H4 (Same.refl _)
   ·exact q D H4 hD s4 (by rw [hd4,Wd.ringW,List.map_map];rfl)
def spWin:Sp:=fun vs H Q _=>∃ (t:List Nat) (n:Nat) (b:Bool),vs=[T t,.int (n:Nat),.bl b]∧(t.length<=5000∧1<=n∧n<=5000)∧∀ D H',H D=none->Same H H'->H' D=some (.lst ((Wd.win t n b).map T))->Q (.ref D) H'
theorem ok_windows {f:Addr}{fd:FuncData}(F:Fun K "windows" "windows" s_windows f fd)(tt:Txt K mg ad)(C_row_windows:Cal P w K mg base (CX1 P w) "row_windows" 1 ["text", "length"] spRowW)(C_ring_windows:Cal P w K mg base (CX1 P w) "ring_windows" 1 ["text", "length"] spRingW) :
  FnOk P w K mg base (CX1 P w) 2 f fd ["text", "length", "ring"] spWin:=by
 refine F.okN sc_windows (fun vs H Q E h=>?_) (fun cdv A outer s H vs Q E hr h=>?_)
 ·obtain ⟨t,n,b,rfl,_⟩:=h
  rfl
 ·obtain ⟨t,n,b,rfl,hn,q⟩:=h
  refine ⟨_,(pss_cons (ps_if (pt_val (pv 2)) (pss_one (ps_ret (pe_cal C_ring_windows hr pass1 (pa_cons (pv 0) (pa_cons (pv 1) pa_nil))))) pss_nil)
   (pss_one (ps_ret (pe_cal C_row_windows hr pass1 (pa_cons (pv 0) (pa_cons (pv 1) pa_nil)))))),?_⟩
  (try rw [cxK2]);(try rw [cxK1])
  refine ⟨_,rfl,_,rfl,?_⟩
  refine ite2 (fun h0=>?_) (fun h0=>?_)
  ·rw [Wd.win,if_pos h0] at q
   exact ⟨_,rfl,_,rfl,t,n,rfl,hn,q⟩
  ·rw [Wd.win,if_neg h0] at q
   exact ⟨_,rfl,_,rfl,t,n,rfl,hn,q⟩
theorem uniq_len {ls:List (List Nat)}(h:ls.Nodup):(uniq ls).length=ls.length:=((List.perm_ext_iff_of_nodup (uniq_nodup ls) h).mpr fun x=>uniq_mem ls x).length_eq
theorem sq_put {H:Hp}{p x C dx:Addr}{fs:List (Str×V)}{xs:List V}{o:HO}(h:SqL K H p xs)(hx:H x=some (.ins C dx fs)):SqL K (upd H x o) p xs:=by
 rcases h with (h | ⟨q,h⟩) | h
 ·exact .inl (.inl (by rw [upd_ne (fun z=>by subst z;rw [hx] at h;cases h)];exact h))
 ·exact .inl (.inr ⟨q,by rw [upd_ne (fun z=>by subst z;rw [hx] at h;cases h)];exact h⟩)
 ·exact .inr h
def WebOk (ls:List (List Nat))(n:Nat):Prop:=ls≠[]∧ls.length<=60∧(1<=n∧n<=8)∧(∀ x∈ls,x.length=n∧∀ c∈x,97<=c∧c<103)∧ls.Nodup
def spWebL (K:PySem.W.Frag):Sp:=fun vs H Q _=>∃ (p:Addr) (ls:List (List Nat)) (n:Nat),vs=[.ref p]∧SqL K H p (ls.map T)∧WebOk ls n∧∀ H',Same H H'->Q .non H'
theorem ok_looked_web {f:Addr}{fd:FuncData}(F:Fun K "looked_web" "looked_web" s_looked_web f fd)(tt:Txt K mg ad)(C_looked:Cal P w K mg base (CX1 P w) "looked" 3 ["word", "kinds"] (spLookedX ad)) :
  FnOk P w K mg base (CX1 P w) 4 f fd ["words"] (spWebL K):=by
 refine F.okX sc_looked_web (fun vs H Q E h=>?_) (fun cdv A outer s H vs Q E hr h=>?_)
 ·obtain ⟨p,ls,n,rfl,_⟩:=h
  rfl
 ·obtain ⟨p,ls,n,rfl,hS,⟨hne,h64,hn,hx,hnd⟩,q⟩:=h
  have hs:sizeLine=16777216:=sizeLine_eq
  have hl0:0<ls.length:=List.length_pos_iff.mpr hne
  obtain ⟨x0,hx0⟩:∃ x0,ls[0]?=some x0:=⟨_,List.getElem?_eq_getElem hl0⟩
  have hx0l:=(hx x0 (List.mem_of_getElem? hx0)).1
  refine ⟨_,(pss_cons (ps_if (pt_cmpR op_gt (pe_callB call_len_seq (by rfl) tt.b_len PySem.boot_len (pa_cons (pv 0) pa_nil)) (pe_glob (by rfl) tt.g_MOST_OF_A_WEB tt.r_MOST_OF_A_WEB) (nomark _)) (pss_one (ps_raise (E:=fun cls H'=>E cls none H') tt.x_TooMany rfl (fun _ _ _ _ _ _ _ I hx q=>raiseX I hx q) (pa_cons (pe_strT [97,32,119,101,98,32,104,97,115,32,97,116,32,109,111,115,116,32,54,52,32,119,111,114,100,115] (by decide +kernel)) pa_nil))) pss_nil)
   (pss_cons (ps_if (pt_cmpR op_eq_I (pe_callB call_len_seq (by rfl) tt.b_len PySem.boot_len (pa_cons (pv 0) pa_nil)) pe_int (nomark _)) (pss_one (ps_raise (E:=fun cls H'=>E cls none H') tt.x_BadWord rfl (fun _ _ _ _ _ _ _ I hx q=>raiseX I hx q) (pa_cons (pe_strT [97,32,119,101,98,32,104,97,115,32,97,116,32,108,101,97,115,116,32,111,110,101,32,119,111,114,100] (by decide +kernel)) pa_nil))) pss_nil)
   (pss_cons (ps_for PassesOwn.leaving rfl (pi_list (pv 0)) (pg_name (i:=1) sc_looked_web.nd rfl (Or.inl rfl)) (pss_cons (ps_expr (pe_cal C_looked hr passX (pa_cons (pv 1) (pa_cons (pe_callB call_len_T (by rfl) tt.b_len PySem.boot_len (pa_cons (pe_glob (by rfl) tt.g_LETTERS tt.r_LETTERS) pa_nil)) pa_nil))))
   (pss_cons (ps_if (pt_cmpR op_gt (pe_callB call_len_T (by rfl) tt.b_len PySem.boot_len (pa_cons (pv 1) pa_nil)) (pe_glob (by rfl) tt.g_LONGEST_OF_A_WEB tt.r_LONGEST_OF_A_WEB) (nomark _)) (pss_one (ps_raise (E:=fun cls H'=>E cls none H') tt.x_BadWord rfl (fun _ _ _ _ _ _ _ I hx q=>raiseX I hx q) (pa_cons (pe_strT [97,32,119,111,114,100,32,111,102,32,97,32,119,101,98,32,104,97,115,32,97,116,32,109,111,115,116,32,56,32,108,101,116,116,101,114,115] (by decide +kernel)) pa_nil))) pss_nil)
   (pss_one (ps_if (pt_cmpR op_ne_I (pe_callB call_len_T (by rfl) tt.b_len PySem.boot_len (pa_cons (pv 1) pa_nil)) (pe_callB call_len_T (by rfl) tt.b_len PySem.boot_len (pa_cons (pe_ix ix_list (pv 0) pe_int (fun _ _=>rfl)) pa_nil)) (nomark _)) (pss_one (ps_raise (E:=fun cls H'=>E cls none H') tt.x_BadWord rfl (fun _ _ _ _ _ _ _ I hx q=>raiseX I hx q) (pa_cons (pe_strT [116,104,101,32,119,111,114,100,115,32,111,102,32,97,32,119,101,98,32,104,97,118,101,32,111,110,101,32,108,101,110,103,116,104] (by decide +kernel)) pa_nil))) pss_nil)))))
   (pss_one (ps_if (pt_cmpR op_ne_I (pe_callB call_lenS (by rfl) tt.b_len PySem.boot_len (pa_cons (pe_callTy (call_setT rfl) (by rfl) tt.b_set (by decide +kernel) (pa_cons (pv 0) pa_nil)) pa_nil)) (pe_callB call_len_seq (by rfl) tt.b_len PySem.boot_len (pa_cons (pv 0) pa_nil)) (nomark _)) (pss_one (ps_raise (E:=fun cls H'=>E cls none H') tt.x_BadWord rfl (fun _ _ _ _ _ _ _ I hx q=>raiseX I hx q) (pa_cons (pe_strT [97,32,119,111,114,100,32,115,116,97,110,100,115,32,105,110,32,97,32,119,101,98,32,111,110,99,101] (by decide +kernel)) pa_nil))) pss_nil))))),?_⟩
  (try rw [cxK2]);(try rw [cxK1])
  refine ⟨_,rfl,p,_,rfl,.inl hS,_,_,rfl,rfl,_,rfl,?_⟩
  rw [List.length_map]
  refine ite2 (fun h0=>absurd (of_decide_eq_true h0) (by omega)) (fun _=>?_)
  refine ⟨_,rfl,p,_,rfl,.inl hS,_,rfl,_,rfl,_,rfl,?_⟩
  rw [List.length_map]
  refine ite2 (fun h0=>absurd (of_decide_eq_true h0) (by omega)) (fun _=>?_)
  refine ⟨_,rfl,p,rfl,⟨_,hS⟩,?_⟩
  refine for_list (K:=K) (a:=p) (xs:=ls.map T) (fun i σ H2=>H2=H∧∃ v,σ=[some (.ref p),v]) ⟨rfl,none,rfl⟩ (fun i σ H2 _ h=>by rw [h.1];exact hS) ?_ ?_
  ·rintro i y σ H2 hi ⟨rfl,v,rfl⟩
   obtain ⟨x,hxi,rfl⟩:∃ x,ls[i]?=some x∧y=T x:=by
    rw [List.getElem?_map] at hi
    obtain ⟨x,h1,h2⟩:=Option.map_eq_some_iff.mp hi
    exact ⟨x,h1,h2.symm⟩
   obtain ⟨hxl,hxc⟩:=hx x (List.mem_of_getElem? hxi)
   have hg:∀ kn:Nat,(6:Int)=(kn:Nat)->Good x kn:=fun kn e=>⟨⟨by omega,by omega⟩,fun c hc=>by have:=hxc c hc;omega⟩
   refine ⟨_,rfl,_,rfl,(by show 6<=sizeLine;omega),x,6,rfl,(by omega),fun z=>absurd ⟨by decide,by decide⟩ z,fun kn ek hk=>⟨fun _=>?_,fun z=>absurd (hg kn ek) z⟩⟩
   refine ⟨_,rfl,_,rfl,(by omega),_,_,rfl,rfl,_,rfl,?_⟩
   refine ite2 (fun h0=>absurd (of_decide_eq_true h0) (by omega)) (fun _=>?_)
   refine ⟨_,rfl,_,rfl,(by omega),_,rfl,p,_,_,_,rfl,rfl,hS,atI_nat (j:=0) (by rw [List.getElem?_map,hx0];rfl),_,rfl,(by omega),_,rfl,_,rfl,_,rfl,?_⟩
   refine iteNS (by rw [hxl,hx0l]) ?_
   exact ⟨rfl,_,rfl⟩
  ·rintro σ H2 ⟨rfl,v,rfl⟩
   refine ⟨_,rfl,p,ls,rfl,hS,(by omega),fun D hD=>?_⟩
   have sD:Same H2 (upd H2 D (SetT P w D (uniq ls))):=fun b o e=>by rw [upd_ne (ne_of_none e hD)];exact e
   refine ⟨D,_,rfl,upd_same,_,rfl,p,_,rfl,.inl (sD.seq hS),_,rfl,_,rfl,_,rfl,?_⟩
   refine iteNS (by rw [List.length_map,uniq_len hnd]) ?_
   exact q _ sD
def flds (tp:Addr)(n:Int):List (Str×V):=putF "length" (.int n) (putF "words" (.ref tp) [])
theorem flds_w (tp:Addr)(n:Int):(flds tp n).lookup ("words" : Str)=some (.ref tp):=by
 unfold flds
 rw [lookup_putF,if_neg (by decide +kernel),lookup_putF,if_pos rfl]
theorem flds_l (tp:Addr)(n:Int):(flds tp n).lookup ("length" : Str)=some (.int n):=by
 unfold flds
 rw [lookup_putF,if_pos rfl]
def spWebI (K:PySem.W.Frag)(C:Addr):Sp:=fun vs H Q _=>∃ (x dx p:Addr) (ls:List (List Nat)) (n:Nat),vs=[.ref x,.ref p]∧H x=some (.ins C dx [])∧SqL K H p (ls.map T)∧WebOk ls n ∧
 ∀ (tp:Addr) (ms:List (List Nat)) (H':Hp),ms.Perm ls->ms.Pairwise (fun a b=>¬ b<a)->(∀ b o,H b=some o->b≠x->H' b=some o)->H' x=some (.ins C dx (flds tp (n:Nat)))->H' tp=some (.tup (ms.map T))->Q .non H'
theorem ok_Web_init {f:Addr}{fd:FuncData}(F:Fun K "__init__" "Web.__init__" s_Web_init f fd)(tt:Txt K mg ad)(C_looked_web:Cal P w K mg base (CX1 P w) "looked_web" 4 ["words"] (spWebL K)) :
  FnOk P w K mg base (CX1 P w) 5 f fd ["self", "words"] (spWebI K ad.Web):=by
 refine F.okX sc_Web_init (fun vs H Q E h=>?_) (fun cdv A outer s H vs Q E hr h=>?_)
 ·obtain ⟨x,dx,p,ls,n,rfl,_⟩:=h
  rfl
 ·obtain ⟨x,dx,p,ls,n,rfl,hx,hS,hok,q⟩:=h
  have hs:sizeLine=16777216:=sizeLine_eq
  obtain ⟨hne,h64,hn,hxs,hnd⟩:=id hok
  have hl0:0<ls.length:=List.length_pos_iff.mpr hne
  obtain ⟨x0,hx0⟩:∃ x0,ls[0]?=some x0:=⟨_,List.getElem?_eq_getElem hl0⟩
  have hx0l:=(hxs x0 (List.mem_of_getElem? hx0)).1
  refine ⟨_,(pss_cons (ps_expr (pe_cal C_looked_web hr passX (pa_cons (pv 1) pa_nil)))
   (pss_cons (ps_fld (pv 0) (pe_callTy call_tuple_of (by rfl) tt.b_tuple (by decide +kernel) (pa_cons (pe_callB call_sortedT (by rfl) tt.b_sorted PyProof.Rows.boot_sorted (pa_cons (pv 1) pa_nil)) pa_nil)) rfl)
   (pss_one (ps_fld (pv 0) (pe_callB call_len_T (by rfl) tt.b_len PySem.boot_len (pa_cons (pe_ix ix_list (pv 1) pe_int (fun _ _=>rfl)) pa_nil)) rfl)))),?_⟩
  (try rw [cxK2]);(try rw [cxK1])
  refine ⟨_,rfl,p,ls,n,rfl,hS,hok,fun H1 s1=>?_⟩
  refine ⟨_,rfl,p,ls,rfl,s1.seq hS,(by omega),fun ms D hD hperm hpw=>?_⟩
  have s2:Same H1 (upd H1 D (.lst (ms.map T))):=fun b o e=>by rw [upd_ne (ne_of_none e hD)];exact e
  refine ⟨D,_,rfl,.inl ⟨SqL.of upd_same,fun tp htp=>?_⟩⟩
  have s3:Same (upd H1 D (.lst (ms.map T))) (upd (upd H1 D (.lst (ms.map T))) tp (.tup (ms.map T))):=fun b o e=>by rw [upd_ne (ne_of_none e htp)];exact e
  generalize hH3:upd (upd H1 D (.lst (ms.map T))) tp (.tup (ms.map T))=H3 at s3
  have htp3:H3 tp=some (.tup (ms.map T)):=by rw [<- hH3];exact upd_same
  have s13:Same H H3:=s1.trans (s2.trans s3)
  have hx3:=s13 x _ hx
  have hxt:tp≠x:=fun z=>by subst z;rw [htp3] at hx3;cases hx3
  refine ⟨_,rfl,x,ad.Web,dx,[],rfl,hx3,tt.cl_Web,tt.na_Web_words,(by show 0<1000;decide),?_⟩
  have hS4:SqL K (upd H3 x (.ins ad.Web dx (putF "words" (.ref tp) []))) p (ls.map T):=sq_put (s13.seq hS) hx3
  refine ⟨_,rfl,p,_,_,_,rfl,rfl,hS4,atI_nat (j:=0) (by rw [List.getElem?_map,hx0];rfl),_,rfl,(by omega),_,rfl,x,ad.Web,dx,_,rfl,upd_same,tt.cl_Web,tt.na_Web_length,(by show 1<1000;decide),?_⟩
  refine q tp ms _ hperm hpw (fun b o e hb=>?_) ?_ ?_
  ·rw [upd_ne hb,upd_ne hb]
   exact s13 b o e
  ·rw [upd_same,hx0l]
   rfl
  ·rw [upd_ne hxt,upd_ne hxt]
   exact htp3
def WebAt (C:Addr)(H:Hp)(x tp:Addr)(n:Nat)(ms:List (List Nat)):Prop:=(∃ dx,H x=some (.ins C dx (flds tp (n:Nat))))∧H tp=some (.tup (ms.map T))
theorem WebAt.on {C:Addr}{H H':Hp}{x tp:Addr}{n:Nat}{ms:List (List Nat)}(h:WebAt C H x tp n ms)(s:Same H H'):WebAt C H' x tp n ms:=let ⟨⟨dx,e⟩,t⟩:=h;⟨⟨dx,s _ _ e⟩,s _ _ t⟩
def spBegin:Sp:=fun vs H Q _=>∃ t:List Nat,vs=[T t]∧(1<=t.length∧t.length<=1000)∧Q (T (t.take (t.length-1))) H
theorem cut_begin {t:List Nat}(h:1<=t.length):cutL t none (some (-1))=t.take (t.length-1):=by
 unfold cutL
 rw [HT.sIx_none,List.drop_zero,Nat.sub_zero]
 show t.take (if (-1:Int)<0 then ((-1:Int)+(t.length:Int)).toNat else min (-1:Int).toNat t.length)=_
 rw [if_pos (by decide),show ((-1:Int)+(t.length:Int)).toNat=t.length-1 by omega]
theorem ok_begin_of {f:Addr}{fd:FuncData}(F:Fun K "begin_of" "begin_of" s_begin_of f fd)(tt:Txt K mg ad):FnOk P w K mg base (CX1 P w) 1 f fd ["word"] spBegin:=by
 refine F.okN sc_begin_of (fun vs H Q E h=>?_) (fun cdv A outer s H vs Q E hr h=>?_)
 ·obtain ⟨t,rfl,_⟩:=h
  rfl
 ·obtain ⟨t,rfl,hl,q⟩:=h
  have hs:sizeLine=16777216:=sizeLine_eq
  refine ⟨_,(pss_one (ps_ret (pe_slice sl_T (pv 0) po_none (po_some (pe_un un_neg pe_int))))),?_⟩
  (try rw [cxK2]);(try rw [cxK1])
  refine ⟨_,rfl,_,rfl,_,rfl,_,rfl,(by omega),?_⟩
  rw [show -(1:Int) = -1 from rfl,cut_begin hl.1]
  exact q
def spEnd:Sp:=fun vs H Q _=>∃ t:List Nat,vs=[T t]∧(1<=t.length∧t.length<=1000)∧Q (T (t.drop 1)) H
theorem ok_end_of {f:Addr}{fd:FuncData}(F:Fun K "end_of" "end_of" s_end_of f fd)(tt:Txt K mg ad):FnOk P w K mg base (CX1 P w) 1 f fd ["word"] spEnd:=by
 refine F.okN sc_end_of (fun vs H Q E h=>?_) (fun cdv A outer s H vs Q E hr h=>?_)
 ·obtain ⟨t,rfl,_⟩:=h
  rfl
 ·obtain ⟨t,rfl,hl,q⟩:=h
  have hs:sizeLine=16777216:=sizeLine_eq
  refine ⟨_,(pss_one (ps_ret (pe_slice sl_T (pv 0) (po_some pe_int) po_none))),?_⟩
  (try rw [cxK2]);(try rw [cxK1])
  refine ⟨_,rfl,_,rfl,_,rfl,(by omega),?_⟩
  have e:cutL t (some 1) none=t.drop 1:=cutL_from (k:=1) hl.1
  rw [e]
  exact q
theorem same_upd {H:Hp}{D:Addr}{o:HO}(h:H D=none):Same H (upd H D o):=fun b u e=>by rw [upd_ne (ne_of_none e h)];exact e
theorem named {H G:Hp}(s:Same H G):∃ H',H'=G∧Same H H':=⟨G,rfl,s⟩
def beg (l:List Nat):List Nat:=l.take (l.length-1)
def Abc (x:List Nat):Prop:=∀ c∈x,97<=c∧c<103
theorem inV_T {t:List Nat}:∀ {ls:List (List Nat)},inV (T t) (ls.map T)=decide (t∈ls)
 | []=>by simp [inV]
 | l::ls=>by
  have ih:=@inV_T t ls
  have e:inV (T t) ((l::ls).map T)=(eqV (T l) (T t)||inV (T t) (ls.map T)):=rfl
  have e2:eqV (T l) (T t)=decide (t=l):=by
   show (tx l==tx t)=decide (t=l)
   rw [Bool.eq_iff_iff,beq_iff_eq,decide_eq_true_iff]
   exact ⟨fun h=>(tx_inj h).symm,fun h=>by rw [h]⟩
  rw [e,ih,e2,Bool.eq_iff_iff,Bool.or_eq_true,decide_eq_true_iff,decide_eq_true_iff,decide_eq_true_iff,List.mem_cons]
theorem itP {c A B:Prop}[Decidable c](hc:c)(h:A):if c then A else B:=by rw [if_pos hc];exact h
theorem itN {c A B:Prop}[Decidable c](hc:¬ c)(h:B):if c then A else B:=by rw [if_neg hc];exact h
def RingOf (t:List Nat)(n:Nat)(ms:List (List Nat)):Prop:=(Wd.ringW t n).Perm ms
def spIsTR (C:Addr):Sp:=fun vs H Q _=>∃ (x tp:Addr) (t:List Nat) (n:Nat) (ms:List (List Nat)),vs=[.ref x,T t]∧WebAt C H x tp n ms∧ms.Pairwise (fun a b=>¬ b<a)∧(t.length<=60∧1<=n∧n<=5000) ∧
 ∀ (b:Bool) (H':Hp),Same H H'->(b=true↔RingOf t n ms)->Q (.bl b) H'
theorem ok_is_turned_ring {f:Addr}{fd:FuncData}(F:Fun K "is_turned_ring" "is_turned_ring" s_is_turned_ring f fd)(tt:Txt K mg ad)(C_windows:Cal P w K mg base (CX1 P w) "windows" 2 ["text", "length", "ring"] spWin) :
  FnOk P w K mg base (CX1 P w) 3 f fd ["web", "text"] (spIsTR ad.Web):=by
 refine F.okN sc_is_turned_ring (fun vs H Q E h=>?_) (fun cdv A outer s H vs Q E hr h=>?_)
 ·obtain ⟨x,tp,t,n,ms,rfl,_⟩:=h
  rfl
 ·obtain ⟨x,tp,t,n,ms,rfl,hW,hsm,hn,q⟩:=h
  have hs:sizeLine=16777216:=sizeLine_eq
  have hu:=Nat.lt_of_succ_lt (hu_of hr)
  obtain ⟨⟨dx,hx⟩,htp⟩:=id hW
  refine ⟨_,(pss_one (ps_ret (pe_cmpR (op_eq_LT hu) (pe_callB call_sortedT (by rfl) tt.b_sorted PyProof.Rows.boot_sorted (pa_cons (pe_cal C_windows hr pass1 (pa_cons (pv 1) (pa_cons (pe_fld (pv 0) rfl) (pa_cons pe_bl pa_nil)))) pa_nil)) (pe_callTy call_list_of (by rfl) tt.b_list (by decide +kernel) (pa_cons (pe_fld (pv 0) rfl) pa_nil)) (nomark _)))),?_⟩
  (try rw [cxK2]);(try rw [cxK1])
  refine ⟨_,rfl,_,rfl,x,ad.Web,dx,_,_,rfl,hx,tt.cl_Web,tt.na_Web_length,flds_l _ _,t,n,true,rfl,⟨by omega,hn.2⟩,fun D H1 hD s1 hd=>?_⟩
  have hw:Wd.win t n true=Wd.ringW t n:=if_pos rfl
  rw [hw] at hd
  refine ⟨D,_,rfl,SqL.of hd,(by rw [Wd.ringW_len];omega),fun qs D2 hD2 hp2 hw2=>?_⟩
  have s2:Same H1 (upd H1 D2 (.lst (qs.map T))):=fun b o e=>by rw [upd_ne (ne_of_none e hD2)];exact e
  have s12:=s1.trans s2
  refine ⟨_,rfl,x,ad.Web,dx,_,_,rfl,s12 x _ hx,tt.cl_Web,tt.na_Web_words,flds_w _ _,tp,_,rfl,.inr (SqT.of (s12 tp _ htp)),fun l hl=>?_⟩
  have s3:Same (upd H1 D2 (.lst (qs.map T))) (upd (upd H1 D2 (.lst (qs.map T))) l (.lst (ms.map T))):=fun b o e=>by rw [upd_ne (ne_of_none e hl)];exact e
  refine ⟨D2,l,qs,ms,rfl,rfl,SqL.of (s3 D2 _ upd_same),SqL.of upd_same,?_⟩
  refine q _ _ (s12.trans s3) ⟨fun z=>?_,fun z=>decide_eq_true ?_⟩
  ·have e:qs=ms:=of_decide_eq_true z
   subst e
   exact hp2.symm
  ·exact Wd.sorted_same (hp2.trans z) hw2 hsm
def spIsRing (C:Addr):Sp:=fun vs H Q _=>∃ (x tp:Addr) (t m0:List Nat) (n:Nat) (ms:List (List Nat)),vs=[.ref x,T t]∧WebAt C H x tp n ms∧ms.Pairwise (fun a b=>¬ b<a)∧(t.length<=60∧1<=n∧n<=5000)∧ms[0]?=some m0 ∧
 ∀ (b:Bool) (H':Hp),Same H H'->(b=true↔RingOf t n ms∧Wd.ringAt t n 0=m0)->Q (.bl b) H'
theorem ok_is_ring {f:Addr}{fd:FuncData}(F:Fun K "is_ring" "is_ring" s_is_ring f fd)(tt:Txt K mg ad)(C_is_turned_ring:Cal P w K mg base (CX1 P w) "is_turned_ring" 3 ["web", "text"] (spIsTR ad.Web))(C_windows:Cal P w K mg base (CX1 P w) "windows" 2 ["text", "length", "ring"] spWin) :
  FnOk P w K mg base (CX1 P w) 4 f fd ["web", "text"] (spIsRing ad.Web):=by
 refine F.okN sc_is_ring (fun vs H Q E h=>?_) (fun cdv A outer s H vs Q E hr h=>?_)
 ·obtain ⟨x,tp,t,m0,n,ms,rfl,_⟩:=h
  rfl
 ·obtain ⟨x,tp,t,m0,n,ms,rfl,hW,hsm,hn,hm0,q⟩:=h
  have hs:sizeLine=16777216:=sizeLine_eq
  refine ⟨_,(pss_one (ps_ret (pe_and (pe_cal C_is_turned_ring hr pass1 (pa_cons (pv 0) (pa_cons (pv 1) pa_nil))) (pe_one (pe_cmpR op_eq_T (pe_ix ix_list (pe_cal C_windows hr pass1 (pa_cons (pv 1) (pa_cons (pe_fld (pv 0) rfl) (pa_cons pe_bl pa_nil)))) pe_int (fun _ _=>rfl)) (pe_ix ix_tup (pe_fld (pv 0) rfl) pe_int (fun _ _=>rfl)) (nomark _)))))),?_⟩
  (try rw [cxK2]);(try rw [cxK1])
  refine ⟨_,rfl,_,rfl,x,tp,t,n,ms,rfl,hW,hsm,hn,fun b H1 s1 hb=>⟨b,rfl,?_⟩⟩
  refine ite2 (fun h0=>?_) (fun h0=>?_)
  ·have hR:=hb.mp h0
   have hl:=hR.length_eq
   have hl0:0<ms.length:=(List.getElem?_eq_some_iff.mp hm0).1
   rw [Wd.ringW_len] at hl
   obtain ⟨⟨dx,hx⟩,htp⟩:=hW.on s1
   refine ⟨_,rfl,_,rfl,x,ad.Web,dx,_,_,rfl,hx,tt.cl_Web,tt.na_Web_length,flds_l _ _,t,n,true,rfl,⟨by omega,hn.2⟩,fun D H2 hD s2 hd=>?_⟩
   have hw:Wd.win t n true=Wd.ringW t n:=if_pos rfl
   rw [hw] at hd
   refine ⟨D,_,_,_,rfl,rfl,SqL.of hd,atI_nat (j:=0) (by rw [List.getElem?_map,Wd.ringW_get (by omega)];rfl),?_⟩
   refine ⟨_,rfl,x,ad.Web,dx,_,_,rfl,s2 x _ hx,tt.cl_Web,tt.na_Web_words,flds_w _ _,tp,_,_,_,rfl,rfl,SqT.of (s2 tp _ htp),atI_nat (j:=0) (by rw [List.getElem?_map,hm0];rfl),_,rfl,_,rfl,?_⟩
   exact q _ H2 (s1.trans s2) ⟨fun z=>⟨hR,of_decide_eq_true z⟩,fun z=>decide_eq_true z.2⟩
  ·exact q false H1 s1 ⟨fun z=>(by cases z),fun z=>absurd (hb.mpr z.1) h0⟩
theorem cut_from {xs:List V}{k:Nat}(h:k<=xs.length):cutV xs (some (k:Int)) none=xs.drop k:=by
 unfold cutV
 rw [HT.sIx_none,show HT.sIx xs.length 0 (some (k:Int))=min k xs.length from HT.sIx_nat _ _ k,Nat.min_eq_left h,List.take_of_length_le (by rw [List.length_drop];exact Nat.le_refl _)]
theorem cut_to {xs:List V}{k:Nat}(h:k<=xs.length):cutV xs none (some (k:Int))=xs.take k:=by
 unfold cutV
 rw [HT.sIx_none,List.drop_zero,Nat.sub_zero,HT.sIx_nat,Nat.min_eq_left h]
theorem bg_le {i:Int}{n:Nat}(h:i.natAbs<=n)(hn:n<2 ^ 8000):Bg i:=Nat.lt_of_le_of_lt h hn
theorem lt8000 {n k:Nat}(h:n<2 ^ k)(hk:k<=8000):n<2 ^ 8000:=Nat.lt_of_lt_of_le h (Nat.pow_le_pow_right (by decide) hk)
theorem int_at0 {ns:List Int}{j:Nat}(h:j<ns.length):(ns.map V.int)[j]?=some (.int (ns.getD j 0)):=by
 rw [List.getElem?_map,List.getD_eq_getElem?_getD,List.getElem?_eq_getElem h]
 rfl
def spInvs:Sp:=fun vs H Q _=>∃ (num:Int) (pr:Nat),vs=[.int num,.int (pr:Nat)]∧Dt.PrimeN pr∧pr<2 ^ 1000∧num % (pr:Int)≠0∧∀ inv:Int,Dt.Cg pr (inv*num) 1->0<=inv∧inv<pr->Q (.int inv) H
theorem ok_inverse {f:Addr}{fd:FuncData}(F:Fun K "inverse" "inverse" s_inverse f fd)(tt:Txt K mg ad):FnOk P w K mg base (CX1 P w) 1 f fd ["number", "prime"] spInvs:=by
 refine F.okN sc_inverse (fun vs H Q E h=>?_) (fun cdv A outer s H vs Q E hr h=>?_)
 ·obtain ⟨num,pr,rfl,_⟩:=h
  rfl
 ·obtain ⟨num,pr,rfl,hp,hpl,h0,q⟩:=h
  have hp1:=hp.1
  have hpos:(0:Int)<(pr:Int):=by omega
  have h8:=lt8000 hpl (by decide)
  obtain ⟨r,hr'⟩:∃ r:Nat,num % (pr:Int)=r:=⟨(num % pr).toNat,by have:=Int.emod_nonneg num (show (pr:Int)≠0 by omega);omega⟩
  have hrl:r<pr:=by have:=Int.emod_lt_of_pos num hpos;omega
  refine ⟨_,(pss_cons (ps_set (i:=2) sc_inverse.nd rfl (Or.inl rfl) (pv 1))
   (pss_cons (ps_set (i:=3) sc_inverse.nd rfl (Or.inl rfl) (pe_op op_mod (pv 0) (pv 1)))
   (pss_cons (ps_set (i:=4) sc_inverse.nd rfl (Or.inl rfl) pe_int)
   (pss_cons (ps_set (i:=5) sc_inverse.nd rfl (Or.inl rfl) pe_int)
   (pss_cons (ps_while PassesOwn.never (pt_cmpR op_ne_I (pv 3) pe_int (nomark _)) (pss_cons (ps_set (i:=6) sc_inverse.nd rfl (Or.inl rfl) (pe_op op_fdivB (pv 2) (pv 3)))
   (pss_cons (ps_set (i:=7) sc_inverse.nd rfl (Or.inl rfl) (pe_op op_sub (pv 2) (pe_op op_mulB (pv 6) (pv 3))))
   (pss_cons (ps_set (i:=2) sc_inverse.nd rfl (Or.inl rfl) (pv 3))
   (pss_cons (ps_set (i:=3) sc_inverse.nd rfl (Or.inl rfl) (pv 7))
   (pss_cons (ps_set (i:=8) sc_inverse.nd rfl (Or.inl rfl) (pe_op op_sub (pv 4) (pe_op op_mulB (pv 6) (pv 5))))
   (pss_cons (ps_set (i:=4) sc_inverse.nd rfl (Or.inl rfl) (pv 5))
   (pss_one (ps_set (i:=5) sc_inverse.nd rfl (Or.inl rfl) (pv 8))))))))))
   (pss_one (ps_ret (pe_op op_mod (pv 5) (pv 1))))))))),?_⟩
  (try rw [cxK2]);(try rw [cxK1])
  refine ⟨_,rfl,?_⟩
  refine ⟨_,rfl,_,rfl,_,_,rfl,rfl,hpos,?_⟩
  refine ⟨fun m σ H2=>H2=H∧∃ (last rest:Nat) (lt t:Int) (v6 v7 v8:Option V),m=rest∧Dt.Euc pr num last rest lt t∧(last<=pr∧rest<=pr)∧σ=[some (.int num),some (.int (pr:Nat)),some (.int (last:Nat)),some (.int (rest:Nat)),some (.int lt),some (.int t),v6,v7,v8],
   ⟨_,rfl,pr,r,0,1,none,none,none,rfl,Dt.Euc.init hp hr' (by omega),⟨Nat.le_refl _,by omega⟩,by rw [<- hr'];rfl⟩,?_⟩
  rintro m σ H2 ⟨rfl,last,rest,lt,t,v6,v7,v8,rfl,he,⟨hl,hrp⟩,rfl⟩
  have hpo:=he.pos
  obtain ⟨ht,hlt⟩:=he.tle
  refine ⟨_,rfl,_,rfl,_,rfl,_,rfl,?_⟩
  by_cases h1:m=1
  ·refine itN (by rw [decide_eq_true (by omega)];exact Bool.false_ne_true) ?_
   exact ⟨_,rfl,_,rfl,_,_,rfl,rfl,hpos,q _ (he.fin h1) ⟨Int.emod_nonneg _ (by omega),Int.emod_lt_of_pos _ hpos⟩⟩
  ·refine itP (by rw [decide_eq_false (by omega)];rfl) ?_
   refine ⟨_,fun σ' H' z=>z,?_⟩
   have hq1:=Nat.div_le_self last m
   have bm:Bg ((m:Nat):Int):=bg_le (n:=pr) (by rw [Int.natAbs_natCast];exact hrp) h8
   have bq:Bg ((last/m:Nat):Int):=bg_le (n:=pr) (by rw [Int.natAbs_natCast];omega) h8
   refine ⟨_,rfl,_,rfl,_,_,rfl,rfl,⟨by show (0:Int)<(m:Int);omega,bm⟩,?_⟩
   refine ⟨_,rfl,_,rfl,_,rfl,_,_,rfl,rfl,⟨bq,bm⟩,_,_,rfl,rfl,?_⟩
   have e1:((last:Nat):Int)-((last/m:Nat):Int)*((m:Nat):Int)=((last % m:Nat):Int):=by
    have h:=congrArg (fun n:Nat=>(n:Int)) (Nat.div_add_mod last m)
    simp only [Int.natCast_add,Int.natCast_mul] at h
    rw [Int.mul_comm] at h
    omega
   refine ⟨_,rfl,?_⟩
   refine ⟨_,rfl,?_⟩
   refine ⟨_,rfl,_,rfl,_,rfl,_,_,rfl,rfl,⟨bq,bg_le ht h8⟩,_,_,rfl,rfl,?_⟩
   refine ⟨_,rfl,?_⟩
   refine ⟨_,rfl,?_⟩
   have hml:=Nat.mod_lt last (show m>0 by omega)
   exact ⟨last % m,hml,rfl,m,last % m,t,_,_,_,_,rfl,he.step h1,⟨hrp,by omega⟩,by rw [<- e1];rfl⟩
def low (back:Int)(pr:Nat)(top row:List Int):List Int:=List.zipWith (fun x y=>x-row.getD 0 0*back % (pr:Int)*y) (row.drop 1) (top.drop 1)
set_option genInjectivity false in
structure LowOk (back:Int)(pr n:Nat)(top row:List Int):Prop where
 l1:row.length=n+1
 l2:top.length=n+1
 sz:n<=1000
 pos:0<pr
 ps:pr<2 ^ 1000
 b0:Bg (row.getD 0 0)
 bk:back.natAbs<=pr
 tp:∀ y∈top,y.natAbs<=pr
def spLow (K:PySem.W.Frag):Sp:=fun vs H Q _=>∃ (a b:Addr) (back:Int) (pr n:Nat) (row top:List Int),vs=[.ref a,.ref b,.int back,.int (pr:Nat)]∧SqL K H a (row.map V.int)∧SqL K H b (top.map V.int)∧LowOk back pr n top row∧∀ D H',H D=none->Same H H'->H' D=some (.lst ((low back pr top row).map V.int))->Q (.ref D) H'
theorem ok_lowered {f:Addr}{fd:FuncData}(F:Fun K "lowered" "lowered" s_lowered f fd)(tt:Txt K mg ad):FnOk P w K mg base (CX1 P w) 1 f fd ["row", "top", "back", "prime"] (spLow K):=by
 refine F.okN sc_lowered (fun vs H Q E h=>?_) (fun cdv A outer s H vs Q E hr h=>?_)
 ·obtain ⟨a,b,back,pr,n,row,top,rfl,_⟩:=h
  rfl
 ·obtain ⟨a,b,back,pr,n,row,top,rfl,hA,hB,ok,q⟩:=h
  have hs:sizeLine=16777216:=sizeLine_eq
  obtain ⟨l1,l2,sz,pos,ps,b0,bk,tp⟩:=ok
  have hpos:(0:Int)<(pr:Int):=by omega
  have h8:=lt8000 ps (by decide)
  have t0:=Int.emod_nonneg (row.getD 0 0*back) (show (pr:Int)≠0 by omega)
  have t1:=Int.emod_lt_of_pos (row.getD 0 0*back) hpos
  refine ⟨_,(pss_cons (ps_set (i:=4) sc_lowered.nd rfl (Or.inr rfl) (pe_op op_mod (pe_op op_mulB (pe_ix ix_list (pv 0) pe_int (fun _ _=>rfl)) (pv 2)) (pv 3)))
   (pss_cons (ps_if (pt_cmpR op_eq_I (pv 4) pe_int (nomark _)) (pss_one (ps_ret (pe_slice sl_list (pv 0) (po_some pe_int) po_none))) pss_nil)
   (pss_one (ps_ret (pe_comp2 cs_lowered_0 rfl (pi_zip (by rfl) tt.b_zip (pa_cons (pe_slice sl_list (pv 0) (po_some pe_int) po_none) (pa_cons (pe_slice sl_list (pv 1) (po_some pe_int) po_none) pa_nil))) (fun cl C s' H' fp=>(pe_op op_sub (pv 0) (pe_op op_mulB (pv 6) (pv 1))))))))),?_⟩
  (try rw [cxK2]);(try rw [cxK1])
  refine ⟨_,rfl,a,_,_,_,rfl,rfl,hA,atI_nat (j:=0) (int_at0 (by omega)),_,rfl,_,_,rfl,rfl,⟨b0,bg_le bk h8⟩,_,rfl,_,_,rfl,rfl,hpos,?_⟩
  refine ⟨_,rfl,_,rfl,_,rfl,_,rfl,?_⟩
  have cA:cutV (row.map V.int) (some (1:Int)) none=(row.drop 1).map V.int:=by rw [List.map_drop];exact cut_from (k:=1) (by rw [List.length_map];omega)
  have cB:cutV (top.map V.int) (some (1:Int)) none=(top.drop 1).map V.int:=by rw [List.map_drop];exact cut_from (k:=1) (by rw [List.length_map];omega)
  by_cases hz:row.getD 0 0*back % (pr:Int)=0
  ·refine itP (decide_eq_true hz) ?_
   refine ⟨_,rfl,_,rfl,a,_,rfl,hA,fun p hp=>?_⟩
   rw [cA]
   refine q p _ hp (same_upd hp) ?_
   rw [upd_same]
   congr 3
   unfold low
   rw [hz]
   refine List.ext_getElem? fun i=>?_
   rw [List.getElem?_zipWith]
   by_cases hi:i<n
   ·rw [List.getElem?_eq_getElem (l:=row.drop 1) (by rw [List.length_drop];omega),List.getElem?_eq_getElem (l:=top.drop 1) (by rw [List.length_drop];omega)]
    show some _=some _
    rw [Int.zero_mul,Int.sub_zero]
   ·rw [List.getElem?_eq_none (by rw [List.length_drop];omega)]
  ·refine itN (fun z=>hz (of_decide_eq_true z)) ?_
   refine ⟨_,rfl,_,rfl,a,_,rfl,hA,fun p1 hp1=>?_⟩
   rw [cA]
   have t1':=same_upd (o:=.lst ((row.drop 1).map V.int)) hp1
   refine ⟨_,rfl,_,rfl,b,_,rfl,t1'.seq hB,fun p2 hp2=>?_⟩
   rw [cB]
   have t2':=same_upd (o:=.lst ((top.drop 1).map V.int)) hp2
   refine ⟨p1,p2,rfl,⟨_,SqL.of (t2' p1 _ upd_same)⟩,⟨_,SqL.of upd_same⟩,?_⟩
   refine comp_zip (fun x y=>match x,y with | .int i,.int j=>.int (i-row.getD 0 0*back % (pr:Int)*j) | _,_=>.non) (SqL.of (t2' p1 _ upd_same)) (SqL.of upd_same) (by rw [List.length_map,List.length_map,List.length_drop,List.length_drop,l1,l2]) (by rw [List.length_map,List.length_drop];omega) (fun i x y H' hx hy s' N hN=>?_) fun D H' hD s' hd=>?_
   ·rw [List.getElem?_map] at hx hy
    obtain ⟨i1,hi1,rfl⟩:=Option.map_eq_some_iff.mp hx
    obtain ⟨j1,hj1,rfl⟩:=Option.map_eq_some_iff.mp hy
    have hj2:=tp j1 (List.mem_of_mem_drop (List.mem_of_getElem? hj1))
    exact ⟨_,rfl,_,rfl,_,rfl,_,_,rfl,rfl,⟨bg_le (n:=pr) (by omega) h8,bg_le hj2 h8⟩,_,_,rfl,rfl,hN H' (Same.refl _)⟩
   ·have hD0:H D=none:=by
     cases e:H D with
     | none=>rfl
     | some o=>have:=(t1'.trans t2') D o e;rw [hD] at this;cases this
    refine q D H' hD0 (t1'.trans (t2'.trans s')) ?_
    rw [hd]
    congr 3
    unfold low
    rw [List.zipWith_map,List.map_zipWith]
def spFirst (K:PySem.W.Frag):Sp:=fun vs H Q _=>∃ (a:Addr) (ns:List Int),vs=[.ref a]∧SqL K H a (ns.map V.int)∧(∀ H',Same H H'->(∀ x∈ns,x=0)->Q .non H')∧∀ (p:Nat) (H':Hp),Same H H'->p<ns.length->ns.getD p 0≠0->Q (.int (p:Nat)) H'
theorem ok_first_other_than_nought {f:Addr}{fd:FuncData}(F:Fun K "first_other_than_nought" "first_other_than_nought" s_first_other_than_nought f fd)(tt:Txt K mg ad):FnOk P w K mg base (CX1 P w) 1 f fd ["numbers"] (spFirst K):=by
 refine F.okN sc_first_other_than_nought (fun vs H Q E h=>?_) (fun cdv A outer s H vs Q E hr h=>?_)
 ·obtain ⟨a,ns,rfl,_⟩:=h
  rfl
 ·obtain ⟨a,ns,rfl,hA,q0,q1⟩:=h
  refine ⟨_,(pss_cons (ps_for PassesOwn.never rfl (pi_enum (by rfl) tt.b_enumerate (pa_cons (pv 0) pa_nil)) (pg_tup rfl (pgs_cons (pg_name (i:=1) sc_first_other_than_nought.nd rfl (Or.inl rfl)) (pgs_cons (pg_name (i:=2) sc_first_other_than_nought.nd rfl (Or.inl rfl)) pgs_nil))) (pss_one (ps_if (pt_cmpR op_ne_I (pv 2) pe_int (nomark _)) (pss_one (ps_ret (pv 1))) pss_nil)))
   (pss_one (ps_ret pe_non))),?_⟩
  (try rw [cxK2]);(try rw [cxK1])
  refine ⟨_,rfl,a,rfl,⟨_,hA⟩,?_⟩
  refine for_enum (K:=K) (a:=a) (xs:=ns.map V.int) (fun i σ H2=>Same H H2∧(∀ j,j<i->ns.getD j 0=0)∧∃ v1 v2:Option V,σ=[some (.ref a),v1,v2]) ⟨Same.refl _,fun j hj=>absurd hj (Nat.not_lt_zero j),none,none,rfl⟩ (fun i σ H2 _ h=>h.1.seq hA) ?_ ?_
  ·rintro i x p σ H2 hx hp ⟨s2,hz,v1,v2,rfl⟩
   have hi:i<ns.length:=by have:=(List.getElem?_eq_some_iff.mp hx).1;rwa [List.length_map] at this
   rw [int_at0 hi] at hx
   obtain rfl:=Option.some.inj hx
   have t2:=same_upd (o:=.tup [.int (i:Nat),.int (ns.getD i 0)]) hp
   refine ⟨p,_,rfl,SqT.of upd_same,rfl,_,_,rfl,_,_,rfl,rfl,?_⟩
   refine ⟨_,rfl,_,rfl,_,rfl,_,rfl,?_⟩
   by_cases h0:ns.getD i 0=0
   ·refine itN (by rw [decide_eq_true h0];exact Bool.false_ne_true) ?_
    exact ⟨s2.trans t2,fun j hj=>by
     rcases Nat.lt_or_ge j i with z | z
     ·exact hz j z
     ·rw [show j=i by omega];exact h0,_,_,rfl⟩
   ·refine itP (by rw [decide_eq_false h0];rfl) ?_
    exact ⟨_,rfl,q1 i _ (s2.trans t2) hi h0⟩
  ·rintro σ H2 ⟨s2,hz,v1,v2,rfl⟩
   rw [List.length_map] at hz
   exact q0 H2 s2 fun x hx=>by
    obtain ⟨j,hj⟩:=List.getElem?_of_mem hx
    have hjl:=(List.getElem?_eq_some_iff.mp hj).1
    have:=hz j hjl
    rwa [List.getD_eq_getElem?_getD,hj] at this
set_option genInjectivity false in
structure RestOk (M:List (List Int))(n pr E:Nat):Prop where
 len:M.length=n
 row:∀ r∈M,r.length=n
 sz:n<=100
 pm:Dt.PrimeN pr
 ps:pr<2 ^ 1000
 be:∀ r∈M,∀ x∈r,x.natAbs<=E
 bd:E+n*(pr*pr)<2 ^ 8000
def spRest (K:PySem.W.Frag):Sp:=fun vs H Q _=>∃ (a:Addr) (as:List Addr) (M:List (List Int)) (n pr E:Nat),vs=[.ref a,.int (pr:Nat)]∧SqL K H a (as.map V.ref)∧RowsAt K H as M∧RestOk M n pr E∧∀ (r:Int) (H':Hp),Same H H'->0<=r∧r<pr->Dt.Cg pr r (Dt.det n (Dt.ent M))->Q (.int r) H'
theorem getD_mem {ns:List Int}{j:Nat}(h:j<ns.length):ns.getD j 0∈ns:=by
 rw [List.getD_eq_getElem?_getD,List.getElem?_eq_getElem h]
 exact List.getElem_mem h
theorem low_len {back:Int}{pr n:Nat}{top row:List Int}(h:LowOk back pr n top row):(low back pr top row).length=n:=by
 unfold low
 have:=h.l1
 have:=h.l2
 rw [List.length_zipWith,List.length_drop,List.length_drop]
 omega
theorem low_get {back:Int}{pr n:Nat}{top row:List Int}(h:LowOk back pr n top row){k:Nat}(hk:k<n):(low back pr top row).getD k 0=row.getD (k+1) 0-row.getD 0 0*back % (pr:Int)*top.getD (k+1) 0:=by
 have h1:=h.l1
 have h2:=h.l2
 unfold low
 rw [List.getD_eq_getElem?_getD,List.getElem?_zipWith,List.getElem?_drop,List.getElem?_drop,Nat.add_comm 1 k,List.getElem?_eq_getElem (show k+1<row.length by omega),List.getElem?_eq_getElem (show k+1<top.length by omega),List.getD_eq_getElem?_getD (l:=row) (i:=k+1),List.getElem?_eq_getElem (show k+1<row.length by omega),List.getD_eq_getElem?_getD (l:=top),List.getElem?_eq_getElem (show k+1<top.length by omega)]
 rfl
theorem low_abs {back:Int}{pr n E:Nat}{top row:List Int}(h:LowOk back pr n top row)(hE:∀ x∈row,x.natAbs<=E):∀ x∈low back pr top row,x.natAbs<=E+pr*pr:=fun x hx=>by
 obtain ⟨k,hk⟩:=List.getElem?_of_mem hx
 have hkl:=(List.getElem?_eq_some_iff.mp hk).1
 rw [low_len h] at hkl
 have h1:=h.l1
 have h2:=h.l2
 have e:=low_get h hkl
 rw [List.getD_eq_getElem?_getD,hk] at e
 have e:x=_:=e
 have b1:=hE _ (getD_mem (ns:=row) (j:=k+1) (by omega))
 have b2:=h.tp _ (getD_mem (ns:=top) (j:=k+1) (by omega))
 have hp:=h.pos
 have t0:=Int.emod_nonneg (row.getD 0 0*back) (show (pr:Int)≠0 by omega)
 have t1:=Int.emod_lt_of_pos (row.getD 0 0*back) (show (0:Int)<pr by omega)
 have b3:=Int.natAbs_sub_le (row.getD (k+1) 0) (row.getD 0 0*back % (pr:Int)*top.getD (k+1) 0)
 rw [Int.natAbs_mul] at b3
 have b4:(row.getD 0 0*back % (pr:Int)).natAbs*(top.getD (k+1) 0).natAbs<=pr*pr:=Nat.mul_le_mul (by omega) b2
 rw [e]
 omega
theorem ok_determinant_rest {f:Addr}{fd:FuncData}(F:Fun K "determinant_rest" "determinant_rest" s_determinant_rest f fd)(tt:Txt K mg ad)(C_first_other_than_nought:Cal P w K mg base (CX1 P w) "first_other_than_nought" 1 ["numbers"] (spFirst K))(C_inverse:Cal P w K mg base (CX1 P w) "inverse" 1 ["number", "prime"] spInvs)(C_lowered:Cal P w K mg base (CX1 P w) "lowered" 1 ["row", "top", "back", "prime"] (spLow K)):FnOk P w K mg base (CX1 P w) 2 f fd ["square", "prime"] (spRest K):=by
 refine F.okN sc_determinant_rest (fun vs H Q E h=>?_) (fun cdv A outer s H vs Q E hr h=>?_)
 ·obtain ⟨a,as,M,n,pr,E0,rfl,_⟩:=h
  rfl
 ·obtain ⟨a,as,M,n,pr,B,rfl,hA,hR,ok,q⟩:=h
  have hs:sizeLine=16777216:=sizeLine_eq
  have hu:=Nat.lt_of_succ_lt (hu_of hr)
  obtain ⟨len,row,sz,pm,ps,be,bd⟩:=ok
  have hp1:=pm.1
  have hpos:(0:Int)<(pr:Int):=by omega
  have h8:=lt8000 ps (by decide)
  refine ⟨_,(pss_cons (ps_set (i:=2) sc_determinant_rest.nd rfl (Or.inl rfl) (pe_callTy call_list_of (by rfl) tt.b_list (by decide +kernel) (pa_cons (pv 0) pa_nil)))
   (pss_cons (ps_set (i:=3) sc_determinant_rest.nd rfl (Or.inl rfl) pe_int)
   (pss_cons (ps_while PassesOwn.never (pt_cmpR (op_ne_L0 K rfl hu) (pv 2) (pe_lst pa_nil) (nomark _)) (pss_cons (ps_set (i:=4) sc_determinant_rest.nd rfl (Or.inl rfl) (pe_cal C_first_other_than_nought hr pass1 (pa_cons (pe_comp cs_determinant_rest_0 rfl (pi_list (pv 2)) (fun cl C s' H' fp=>(pe_op op_mod (pe_ix (ix_list_K K rfl) (pv 0) pe_int (fun _ _=>rfl)) (pv 2)))) pa_nil)))
   (pss_cons (ps_if (pt_cmp (pc_isN (pv 4))) (pss_one (ps_ret pe_int)) pss_nil)
   (pss_cons (ps_set (i:=5) sc_determinant_rest.nd rfl (Or.inr rfl) (pe_comp cs_determinant_rest_1 rfl (pi_list (pe_ix ix_list (pv 2) (pv 4) (fun _ _=>rfl))) (fun cl C s' H' fp=>(pe_op op_mod (pv 0) (pv 2)))))
   (pss_cons (ps_set (i:=6) sc_determinant_rest.nd rfl (Or.inr rfl) (pe_cal C_inverse hr pass1 (pa_cons (pe_ix ix_list (pv 5) pe_int (fun _ _=>rfl)) (pa_cons (pv 1) pa_nil))))
   (pss_cons (ps_set (i:=3) sc_determinant_rest.nd rfl (Or.inl rfl) (pe_op op_mod (pe_op op_mulB (pv 3) (pe_ix ix_list (pv 5) pe_int (fun _ _=>rfl))) (pv 1)))
   (pss_cons (ps_wk (t':=(fun D σ H=>∃ (x0 x2:V) (pr:Nat) (rst:Int) (p:Nat) (v5 v6:Option V),σ=[some x0,some (.int (pr:Nat)),some x2,some (.int rst),some (.int (p:Nat)),v5,v6]∧D.nx [some x0,some (.int (pr:Nat)),some x2,some (.int (if p % 2=1 then (pr:Int)-rst else rst)),some (.int (p:Nat)),v5,v6] H)) (ps_if (pt_cmpR op_eq_I (pe_op op_mod (pv 4) pe_int) pe_int (nomark _)) (pss_one (ps_set (i:=3) sc_determinant_rest.nd rfl (Or.inl rfl) (pe_op op_sub (pv 1) (pv 3)))) pss_nil) ?rA)
   (pss_one (ps_setComp (i:=2) cs_determinant_rest_2 rfl (pi_list (pe_op op_catL (pe_slice sl_list (pv 2) po_none (po_some (pv 4))) (pe_slice sl_list (pv 2) (po_some (pe_op op_add (pv 4) pe_int)) po_none))) (fun cl C s' H' fp=>(pe_cal C_lowered hr pass1 (pa_cons (pv 0) (pa_cons (pv 6) (pa_cons (pv 7) (pa_cons (pv 2) pa_nil)))))) sc_determinant_rest.nd rfl rfl)))))))))
   (pss_one (ps_ret (pv 3)))))),?_⟩
  (try rw [cxK2]);(try rw [cxK1])
  case rA =>
   rintro D σ H ⟨x0,x2,pr,rst,p,v5,v6,rfl,nxt⟩
   refine ⟨_,rfl,_,_,rfl,rfl,(by show (0:Int)<2;decide),_,rfl,_,rfl,_,rfl,?_⟩
   by_cases h2:p % 2=1
   ·refine itP (decide_eq_true (by omega)) ?_
    refine ⟨_,rfl,_,rfl,_,_,rfl,rfl,?_⟩
    rw [if_pos h2] at nxt
    exact nxt
   ·refine itN (fun z=>h2 (by have:=of_decide_eq_true z;omega)) ?_
    rw [if_neg h2] at nxt
    exact nxt
  refine ⟨_,rfl,a,_,rfl,.inl hA,fun L0 hL0=>?_⟩
  have t0:=same_upd (o:=.lst (as.map V.ref)) hL0
  refine ⟨fun m σ G=>∃ (Lr:Addr) (bs:List Addr) (N:List (List Int)) (k:Nat) (rest:Int) (v4 v5 v6:Option V),Same H G∧G Lr=some (.lst (bs.map V.ref))∧RowsAt K G bs N∧N.length=m∧(∀ r∈N,r.length=m)∧m+k=n∧(∀ r∈N,∀ x∈r,x.natAbs<=B+k*(pr*pr))∧(0<rest∧rest<pr)∧Dt.Cg pr (rest*Dt.det m (Dt.ent N)) (Dt.det n (Dt.ent M))∧σ=[some (.ref a),some (.int (pr:Nat)),some (.ref Lr),some (.int rest),v4,v5,v6],
   ⟨n,L0,as,M,0,1,none,none,none,t0,upd_same,hR.on t0,len,row,by omega,fun r hr x hx=>by rw [Nat.zero_mul];exact be r hr x hx,⟨by decide,by omega⟩,by rw [Int.one_mul];exact Dt.Cg.refl _,rfl⟩,?_⟩
  rintro m σ G ⟨Lr,bs,N,k,rest,v4,v5,v6,sG,hL,hN,hNl,hNr,hmk,hNb,hrest,hcg,rfl⟩
  have hbl:=hN.1
  refine ⟨_,rfl,(by show 0<=sizeLine;omega),fun E1 hE1=>?_⟩
  have tE:=same_upd (o:=.lst []) hE1
  refine ⟨Lr,E1,_,rfl,rfl,SqL.of (tE Lr _ hL),SqL.of upd_same,_,rfl,?_⟩
  cases m with
  | zero =>
   obtain rfl:bs=[]:=List.length_eq_zero_iff.mp (by omega)
   refine iteF ?_
   refine ⟨_,rfl,q rest _ (sG.trans tE) ⟨by omega,hrest.2⟩ ?_⟩
   have e:rest*Dt.det 0 (Dt.ent N)=rest:=Int.mul_one rest
   rw [e] at hcg
   exact hcg
  | succ m =>
   refine itP (by cases bs with | nil=>rw [List.length_nil] at hbl;omega | cons y r=>rfl) ?_
   refine ⟨_,fun σ' H' z=>z,?_⟩
   have hL2:=tE Lr _ hL
   have hN2:=hN.on tE
   generalize upd G E1 (.lst [])=G2 at tE hL2 hN2
   refine ⟨_,rfl,Lr,rfl,⟨_,SqL.of hL2⟩,?_⟩
   refine compI (fun r=>r.getD 0 0 % (pr:Int)) (reads_list (SqL.of hL2)) hN2 (by omega) (fun a' r G' hrm hS s' N' hN'=>?_) fun D1 G3 hD1 s3 hd3=>?_
   ·exact ⟨_,rfl,a',_,_,_,rfl,rfl,hS,atI_nat (j:=0) (int_at0 (by rw [hNr r hrm];omega)),_,rfl,_,_,rfl,rfl,hpos,hN' G' (Same.refl _)⟩
   have hL3:=s3 Lr _ hL2
   have hN3:=hN2.on s3
   have sG3:=sG.trans (tE.trans s3)
   refine ⟨D1,_,rfl,SqL.of hd3,fun G4 s4 hall=>?_,fun p G4 s4 hp hne=>?_⟩
   ·refine ⟨_,rfl,_,rfl,iteT ?_⟩
    refine q 0 G4 (sG3.trans s4) ⟨Int.le_refl _,hpos⟩ ?_
    have h0:=Dt.elim0 (m:=pr) (M:=N) (n:=m) (fun r hrm=>Int.dvd_of_emod_eq_zero (hall _ (List.mem_map.mpr ⟨r,hrm,rfl⟩))) hNl
    have h1:=(Dt.Cg.refl (m:=pr) rest).mul h0
    rw [Int.mul_zero] at h1
    exact h1.symm.trans hcg
   ·rw [List.length_map] at hp
    obtain ⟨rp,hrp⟩:∃ rp,N[p]?=some rp:=⟨_,List.getElem?_eq_getElem hp⟩
    obtain ⟨bp,hbp⟩:∃ bp,bs[p]?=some bp:=⟨_,List.getElem?_eq_getElem (by omega)⟩
    have hrpm:=List.mem_of_getElem? hrp
    have hrl:=hNr rp hrpm
    have hne2:rp.getD 0 0 % (pr:Int)≠0:=by
     rw [List.getD_eq_getElem?_getD,List.getElem?_map,hrp] at hne
     exact hne
    refine ⟨_,rfl,_,rfl,iteF ?_⟩
    have hL4:=s4 Lr _ hL3
    have hN4:=hN3.on s4
    have hS4:=hN4.2 p bp rp hbp hrp
    refine ⟨_,rfl,_,rfl,Lr,_,_,_,rfl,rfl,SqL.of hL4,atI_nat (j:=p) (by rw [List.getElem?_map,hbp];rfl),bp,rfl,⟨_,hS4⟩,?_⟩
    refine compG (fun v=>match v with | .int i=>.int (i % (pr:Int)) | _=>.non) (reads_list hS4) (by rw [List.length_map];omega) (fun v G' hv s' N' hN'=>?_) fun D2 G5 hD2 s5 hd5=>?_
    ·obtain ⟨i,hi,rfl⟩:=List.mem_map.mp hv
     exact ⟨_,rfl,_,rfl,_,_,rfl,rfl,hpos,hN' G' (Same.refl _)⟩
    have hd5:G5 D2=some (.lst ((rp.map fun i=>i % (pr:Int)).map V.int)):=by rw [hd5,List.map_map,List.map_map];rfl
    have htl:(rp.map fun i=>i % (pr:Int)).length=m+1:=by rw [List.length_map,hrl]
    have htop:∀ k,k<m+1->(rp.map fun i=>i % (pr:Int)).getD k 0=rp.getD k 0 % (pr:Int):=fun k hk=>by
     rw [List.getD_eq_getElem?_getD,List.getElem?_map,List.getD_eq_getElem?_getD,List.getElem?_eq_getElem (by omega)]
     rfl
    have htb:∀ y∈rp.map (fun i=>i % (pr:Int)),y.natAbs<=pr:=fun y hy=>by
     obtain ⟨i,_,rfl⟩:=List.mem_map.mp hy
     have:=Int.emod_nonneg i (show (pr:Int)≠0 by omega)
     have:=Int.emod_lt_of_pos i hpos
     omega
    have ht0:(rp.map fun i=>i % (pr:Int)).getD 0 0 % (pr:Int)≠0:=by rw [htop 0 (by omega),Int.emod_emod];exact hne2
    have htc:∀ k,k<m+1->Dt.Cg pr ((rp.map fun i=>i % (pr:Int)).getD k 0) ((N.getD p []).getD k 0):=fun k hk=>by
     rw [htop k hk,List.getD_eq_getElem?_getD (l:=N),hrp]
     exact Dt.cg_mod _
    generalize rp.map (fun i=>i % (pr:Int))=top at hd5 htl htop htb ht0 htc
    have sG5:=sG3.trans (s4.trans s5)
    have hL5:=s5 Lr _ hL4
    have hN5:=hN4.on s5
    refine ⟨_,rfl,D2,_,_,_,rfl,rfl,SqL.of hd5,atI_nat (j:=0) (int_at0 (by omega)),_,rfl,top.getD 0 0,pr,rfl,pm,ps,ht0,fun inv hinv hib=>?_⟩
    have ht0b:=htb _ (getD_mem (ns:=top) (j:=0) (by omega))
    refine ⟨_,rfl,_,rfl,D2,_,_,_,rfl,rfl,SqL.of hd5,atI_nat (j:=0) (int_at0 (by omega)),_,_,rfl,rfl,⟨bg_le (n:=pr) (by omega) h8,bg_le ht0b h8⟩,_,rfl,_,_,rfl,rfl,hpos,?_⟩
    refine ⟨_,_,pr,_,p,_,_,rfl,?_⟩
    have hpl:p<=bs.length:=by omega
    have c1:cutV (bs.map V.ref) none (some ((p:Nat):Int))=(bs.take p).map V.ref:=by rw [List.map_take];exact cut_to (by rw [List.length_map];omega)
    have c2:cutV (bs.map V.ref) (some ((p:Nat)+1:Int)) none=(bs.drop (p+1)).map V.ref:=by rw [List.map_drop];exact cut_from (k:=p+1) (by rw [List.length_map];omega)
    refine ⟨_,rfl,_,rfl,_,rfl,Lr,_,rfl,SqL.of hL5,fun p1 hp1=>?_⟩
    rw [c1]
    have u1:=same_upd (o:=.lst ((bs.take p).map V.ref)) hp1
    refine ⟨_,rfl,_,rfl,_,_,rfl,rfl,_,rfl,Lr,_,rfl,SqL.of (u1 Lr _ hL5),fun p2 hp2=>?_⟩
    rw [c2]
    have u2:=same_upd (o:=.lst ((bs.drop (p+1)).map V.ref)) hp2
    refine ⟨p1,p2,_,_,rfl,rfl,SqL.of (u2 p1 _ upd_same),SqL.of upd_same,(by rw [List.length_map,List.length_map,List.length_take,List.length_drop];omega),fun p3 hp3=>?_⟩
    rw [show (bs.take p).map V.ref++(bs.drop (p+1)).map V.ref=(bs.eraseIdx p).map V.ref by rw [<- List.map_append,List.eraseIdx_eq_take_drop_succ]]
    have u3:=same_upd (o:=.lst ((bs.eraseIdx p).map V.ref)) hp3
    have u123:=u1.trans (u2.trans u3)
    refine ⟨p3,rfl,⟨_,SqL.of upd_same⟩,?_⟩
    have hlok:∀ r∈N,LowOk inv pr m top r:=fun r hrm=>⟨hNr r hrm,htl,by omega,by omega,ps,bg_le (hNb r hrm _ (getD_mem (by rw [hNr r hrm];omega))) (Nat.lt_of_le_of_lt (Nat.add_le_add_left (Nat.mul_le_mul_right _ (show k<=n by omega)) B) bd),by omega,htb⟩
    have hsub:∀ r∈N.eraseIdx p,r∈N:=fun r hr=>List.mem_of_mem_eraseIdx hr
    refine compR (low inv pr top) (reads_list (SqL.of upd_same)) ((hN5.erase p).on u123) (by rw [List.length_eraseIdx];split <;> omega) (fun a' r G' hrm hS s' N' hN'=>?_) fun D4 cs G6 hD4 s6 hd6 _ hR6=>?_
    ·exact ⟨_,rfl,_,rfl,_,rfl,_,rfl,a',D2,inv,pr,m,r,top,rfl,hS,SqL.of (s' D2 _ (u123 D2 _ hd5)),hlok r (hsub r hrm),fun D G'' hD s'' hd=>hN' D G'' s'' hD hd⟩
    ·have hel:=Dt.elim (m:=pr) (n:=m) (p:=p) (M:=N) (top:=top) (back:=inv) (t:=fun r=>r.getD 0 0*inv % (pr:Int)) (low:=low inv pr top) (by omega) hNl htc (by rw [Int.mul_comm];exact hinv) (fun r _=>Dt.cg_mod _) fun r hrm k hk=>low_get (hlok r hrm) hk
     obtain ⟨r1,r2⟩:=Dt.rest_step hrest hinv hel hcg
     refine ⟨m,Nat.lt_succ_self m,D4,cs,(N.eraseIdx p).map (low inv pr top),k+1,_,_,_,_,sG5.trans (u123.trans s6),hd6,hR6,by rw [List.length_map,List.length_eraseIdx,if_pos (by omega)];omega,fun r hr=>?_,by omega,fun r hr=>?_,r1,r2,rfl⟩
     ·obtain ⟨r',hr',rfl⟩:=List.mem_map.mp hr
      exact low_len (hlok r' (hsub r' hr'))
     ·obtain ⟨r',hr',rfl⟩:=List.mem_map.mp hr
      rw [Nat.add_mul,Nat.one_mul,<- Nat.add_assoc]
      exact low_abs (hlok r' (hsub r' hr')) (hNb r' (hsub r' hr'))
set_option genInjectivity false in
structure SqOk (M:List (List Int))(n:Nat):Prop where
 len:M.length=n
 row:∀ r∈M,r.length=n
 sz:n<=64
 sm:∀ r∈M,Dt.rs n r<=2 ^ 110
theorem SqOk.part {M:List (List Int)}{n:Nat}(h:SqOk M n)(i:Nat):Dt.pL ((M.take i).map (Dt.rs n))<2 ^ 8000:=by
 have h1:=Dt.pL_le (R:=2 ^ 110) (l:=(M.take i).map (Dt.rs n)) fun x hx=>by
  obtain ⟨r,hr,rfl⟩:=List.mem_map.mp hx
  exact h.sm r (List.mem_of_mem_take hr)
 rw [List.length_map,List.length_take,<- Nat.pow_mul] at h1
 have:=h.len
 have:=h.sz
 exact Nat.lt_of_le_of_lt h1 (Nat.pow_lt_pow_right (by decide) (by omega))
def spGreat (K:PySem.W.Frag):Sp:=fun vs H Q _=>∃ (a:Addr) (as:List Addr) (M:List (List Int)) (n:Nat),vs=[.ref a]∧SqL K H a (as.map V.ref)∧RowsAt K H as M∧SqOk M n∧∀ H',Same H H'->Q (.int (Dt.pL (M.map (Dt.rs n)):Nat)) H'
theorem ok_greatest_of {f:Addr}{fd:FuncData}(F:Fun K "greatest_of" "greatest_of" s_greatest_of f fd)(tt:Txt K mg ad):FnOk P w K mg base (CX1 P w) 1 f fd ["square"] (spGreat K):=by
 refine F.okN sc_greatest_of (fun vs H Q E h=>?_) (fun cdv A outer s H vs Q E hr h=>?_)
 ·obtain ⟨a,as,M,n,rfl,_⟩:=h
  rfl
 ·obtain ⟨a,as,M,n,rfl,hA,hR,ok,q⟩:=h
  have hs:sizeLine=16777216:=sizeLine_eq
  have hrl:=hR.1
  have hlen:=ok.len
  have hsz:=ok.sz
  refine ⟨_,(pss_cons (ps_set (i:=1) sc_greatest_of.nd rfl (Or.inl rfl) pe_int)
   (pss_cons (ps_for PassesOwn.never rfl (pi_list (pv 0)) (pg_name (i:=2) sc_greatest_of.nd rfl (Or.inl rfl)) (pss_one (ps_set (i:=1) sc_greatest_of.nd rfl (Or.inl rfl) (pe_op op_mulB (pv 1) (pe_callB (call_sumX rfl) (by rfl) tt.b_sum PyProof.Rows.boot_sum (pa_cons (pe_comp cs_greatest_of_0 rfl (pi_list (pv 2)) (fun cl C s' H' fp=>(pe_callB call_abs (by rfl) tt.b_abs PyProof.Rows.boot_abs (pa_cons (pv 0) pa_nil)))) pa_nil))))))
   (pss_one (ps_ret (pv 1))))),?_⟩
  (try rw [cxK2]);(try rw [cxK1])
  refine ⟨_,rfl,a,rfl,⟨_,hA⟩,?_⟩
  refine for_list (K:=K) (a:=a) (xs:=as.map V.ref) (fun i σ G=>Same H G∧∃ v2:Option V,σ=[some (.ref a),some (.int (Dt.pL ((M.take i).map (Dt.rs n)):Nat)),v2]) ⟨Same.refl _,none,rfl⟩ (fun i σ G _ h=>h.1.seq hA) ?_ ?_
  ·rintro i v σ G hi ⟨sG,v2,rfl⟩
   obtain ⟨a',r,rfl,hr',hS⟩:=(hR.on sG).at hi
   have hrm:=List.mem_of_getElem? hr'
   have hrl2:=ok.row r hrm
   refine ⟨_,rfl,_,rfl,a',rfl,⟨_,hS⟩,?_⟩
   refine compG (fun v=>match v with | .int i=>.int (if i<0 then -i else i) | _=>.non) (reads_list hS) (by rw [List.length_map];omega) (fun v G' hv s' N' hN'=>?_) fun D2 G5 hD2 s5 hd5=>?_
   ·obtain ⟨i,hi,rfl⟩:=List.mem_map.mp hv
    exact ⟨_,rfl,_,rfl,hN' G' (Same.refl _)⟩
   have hd5:G5 D2=some (.lst ((r.map fun i=>if i<0 then -i else i).map V.int)):=by rw [hd5,List.map_map,List.map_map];rfl
   refine ⟨D2,_,rfl,SqL.of hd5,?_⟩
   rw [Dt.sN_list hrl2]
   have e:Dt.pL ((M.take (i+1)).map (Dt.rs n))=Dt.pL ((M.take i).map (Dt.rs n))*Dt.rs n r:=by rw [List.take_add_one,hr',List.map_append];exact Dt.pL_snoc _ _
   refine ⟨_,_,rfl,rfl,⟨bg_le (by rw [Int.natAbs_natCast];exact Nat.le_refl _) (ok.part i),bg_le (n:=2 ^ 110) (by rw [Int.natAbs_natCast];exact ok.sm r hrm) (lt8000 (k:=111) (by decide +kernel) (by decide))⟩,?_⟩
   refine ⟨sG.trans s5,some (.ref a'),?_⟩
   rw [e,Int.natCast_mul]
   rfl
  ·rintro σ G ⟨sG,v2,rfl⟩
   rw [List.length_map,List.take_of_length_le (by omega)]
   exact ⟨_,rfl,q G sG⟩
def kts:List Int:=[133,211,598,652,721,850,1282,1417,1582,1681,1726,1837,1885,2017,2377,2383,2452,2476,2530,2611,2662,2698,2773,2878,2917,2980,2998,3082,3238,3250,3343,3421,3427,3670,3817,4162,4252,4447,4468,4621,4630,4747,4867,4891,4915,5128,5143,5236,5401,5587,5650,5803,5833,5923,5986,6202,6235,6286,6496,6526,6736,7093,7561,7696,7831,7855,7882,7927,8143,8248]
def spTimes:Sp:=fun vs H Q _=>∃ (j:Nat) (last:Int),vs=[.int (j:Nat),.int last]∧j<7∧Q (.int (kts.getD j 0)) H
theorem ok_further_times {f:Addr}{fd:FuncData}(F:Fun K "further_times" "further_times" s_further_times f fd)(tt:Txt K mg ad):FnOk P w K mg base (CX1 P w) 1 f fd ["place", "last"] spTimes:=by
 refine F.okN sc_further_times (fun vs H Q E h=>?_) (fun cdv A outer s H vs Q E hr h=>?_)
 ·obtain ⟨j,last,rfl,_⟩:=h
  rfl
 ·obtain ⟨j,last,rfl,hj,q⟩:=h
  have hkt:SqT K H ad.KNOWN_TIMES (kts.map V.int):=SqT.tupIs tt.kt
  have hkl:(kts.map V.int).length=70:=rfl
  refine ⟨_,(pss_cons (ps_if (pt_cmpR op_lt (pv 0) (pe_callB call_len_seq (by rfl) tt.b_len PySem.boot_len (pa_cons (pe_glob (v:=.ref ad.KNOWN_TIMES) (by rfl) tt.m_KNOWN_TIMES rfl) pa_nil)) (nomark _)) (pss_one (ps_ret (pe_ix ix_tup (pe_glob (v:=.ref ad.KNOWN_TIMES) (by rfl) tt.m_KNOWN_TIMES rfl) (pv 0) (fun _ _=>rfl)))) pss_nil)
   pss_dead),?_⟩
  (try rw [cxK2]);(try rw [cxK1])
  refine ⟨_,rfl,ad.KNOWN_TIMES,_,rfl,.inr hkt,_,_,rfl,rfl,_,rfl,?_⟩
  rw [hkl]
  refine itP (decide_eq_true (by omega)) ?_
  exact ⟨_,rfl,ad.KNOWN_TIMES,_,_,_,rfl,rfl,hkt,atI_nat (j:=j) (int_at0 (by show j<70;omega)),q⟩
theorem pr_eq:∀ j,j<7->kts.getD j 0*6277101735386680763835789423207666416102355444464034512896+1=((Dt.pr j:Nat):Int):=by decide +kernel
theorem kts_le:∀ j,j<7->(kts.getD j 0).natAbs<2 ^ 20:=by decide +kernel
def spDet (K:PySem.W.Frag):Sp:=fun vs H Q _=>∃ (a:Addr) (as:List Addr) (M:List (List Int)) (n:Nat),vs=[.ref a]∧SqL K H a (as.map V.ref)∧RowsAt K H as M∧SqOk M n∧2*Dt.pL (M.map (Dt.rs n))<Dt.md 7∧∀ H',Same H H'->Q (.int (Dt.det n (Dt.ent M))) H'
theorem num_ok {n p:Nat}(hn:n<=64)(hp:p<2 ^ 250):2 ^ 110+n*(p*p)<2 ^ 8000:=by
 have h1:n*(p*p)<=64*(2 ^ 250*2 ^ 250):=Nat.mul_le_mul hn (Nat.mul_le_mul (Nat.le_of_lt hp) (Nat.le_of_lt hp))
 exact Nat.lt_of_le_of_lt (Nat.add_le_add_left h1 _) (by decide +kernel)
theorem SqOk.rest {M:List (List Int)}{n p:Nat}(h:SqOk M n)(hp:Dt.PrimeN p)(hl:p<2 ^ 250):RestOk M n p (2 ^ 110) :=
 ⟨h.len,h.row,Nat.le_trans h.sz (by decide),hp,Nat.lt_of_lt_of_le hl (Nat.pow_le_pow_right (by decide) (by decide)),fun r hr x hx=>Nat.le_trans (Dt.rs_mem (h.row r hr) hx) (h.sm r hr),num_ok h.sz hl⟩
theorem ok_determinant {f:Addr}{fd:FuncData}(F:Fun K "determinant" "determinant" s_determinant f fd)(tt:Txt K mg ad)(C_greatest_of:Cal P w K mg base (CX1 P w) "greatest_of" 1 ["square"] (spGreat K))(C_determinant_rest:Cal P w K mg base (CX1 P w) "determinant_rest" 2 ["square", "prime"] (spRest K))(C_further_times:Cal P w K mg base (CX1 P w) "further_times" 1 ["place", "last"] spTimes)(C_inverse:Cal P w K mg base (CX1 P w) "inverse" 1 ["number", "prime"] spInvs) :
  FnOk P w K mg base (CX1 P w) 3 f fd ["square"] (spDet K):=by
 refine F.okN sc_determinant (fun vs H Q E h=>?_) (fun cdv A outer s H vs Q E hr h=>?_)
 ·obtain ⟨a,as,M,n,rfl,_⟩:=h
  rfl
 ·obtain ⟨a,as,M,n,rfl,hA,hR,ok,hlt,q⟩:=h
  have hs:sizeLine=16777216:=sizeLine_eq
  have hdet:=Dt.det_le (M:=M) ok.len
  have hbnd:=ok.part n
  rw [List.take_of_length_le (by rw [ok.len];exact Nat.le_refl _)] at hbnd
  generalize hB:Dt.pL (M.map (Dt.rs n))=B at hlt hdet hbnd
  generalize hDD:Dt.det n (Dt.ent M)=DD at q hdet
  have bB:Bg ((B:Nat):Int):=bg_le (by rw [Int.natAbs_natCast];exact Nat.le_refl _) hbnd
  refine ⟨_,(pss_cons (ps_set (i:=1) sc_determinant.nd rfl (Or.inl rfl) (pe_cal C_greatest_of hr pass1 (pa_cons (pv 0) pa_nil)))
   (pss_cons (ps_set (i:=2) sc_determinant.nd rfl (Or.inl rfl) (pe_cal C_determinant_rest hr pass1 (pa_cons (pv 0) (pa_cons (pe_glob (by rfl) tt.g_FIRST_PRIME tt.r_FIRST_PRIME) pa_nil))))
   (pss_cons (ps_set (i:=3) sc_determinant.nd rfl (Or.inl rfl) (pe_glob (by rfl) tt.g_FIRST_PRIME tt.r_FIRST_PRIME))
   (pss_cons (ps_set (i:=4) sc_determinant.nd rfl (Or.inl rfl) pe_int)
   (pss_cons (ps_set (i:=5) sc_determinant.nd rfl (Or.inl rfl) pe_int)
   (pss_cons (ps_while PassesOwn.never (pt_cmpR op_le (pv 3) (pe_op op_mulB pe_int (pv 1)) (nomark _)) (pss_cons (ps_set (i:=5) sc_determinant.nd rfl (Or.inl rfl) (pe_cal C_further_times hr pass1 (pa_cons (pv 4) (pa_cons (pv 5) pa_nil))))
   (pss_cons (ps_set (i:=4) sc_determinant.nd rfl (Or.inl rfl) (pe_op op_add (pv 4) pe_int))
   (pss_cons (ps_set (i:=6) sc_determinant.nd rfl (Or.inl rfl) (pe_op op_add (pe_op op_mulB (pv 5) (pe_glob (by rfl) tt.g_STEP tt.r_STEP)) pe_int))
   (pss_cons (ps_set (i:=7) sc_determinant.nd rfl (Or.inl rfl) (pe_op op_sub (pe_cal C_determinant_rest hr pass1 (pa_cons (pv 0) (pa_cons (pv 6) pa_nil))) (pv 2)))
   (pss_cons (ps_set (i:=2) sc_determinant.nd rfl (Or.inl rfl) (pe_op op_add (pv 2) (pe_op op_mulB (pe_op op_mod (pe_op op_mulB (pv 7) (pe_cal C_inverse hr pass1 (pa_cons (pv 3) (pa_cons (pv 6) pa_nil)))) (pv 6)) (pv 3))))
   (pss_one (ps_set (i:=3) sc_determinant.nd rfl (Or.inl rfl) (pe_op op_mulB (pv 3) (pv 6))))))))))
   (pss_cons (ps_if (pt_cmpR op_gt (pv 2) (pv 1) (nomark _)) (pss_one (ps_ret (pe_op op_sub (pv 2) (pv 3)))) pss_nil)
   (pss_one (ps_ret (pv 2)))))))))),?_⟩
  (try rw [cxK2]);(try rw [cxK1])
  refine ⟨_,rfl,a,as,M,n,rfl,hA,hR,ok,fun G1 s1=>?_⟩
  rw [hB]
  refine ⟨_,rfl,a,as,M,n,2305843009213693951,2 ^ 110,rfl,s1.seq hA,hR.on s1,ok.rest Dt.mers (by decide +kernel),fun res G2 s2 hres hcg=>?_⟩
  rw [hDD] at hcg
  refine ⟨fun m σ G=>∃ (j:Nat) (res times:Int) (v6 v7:Option V),m=7-j∧j<=7∧Same H G∧(0<=res∧res<(Dt.md j:Nat))∧Dt.Cg (Dt.md j:Nat) res DD∧σ=[some (.ref a),some (.int (B:Nat)),some (.int res),some (.int (Dt.md j:Nat)),some (.int (j:Nat)),some (.int times),v6,v7],
   ⟨_,0,res,0,none,none,rfl,by omega,s1.trans s2,hres,hcg,rfl⟩,?_⟩
  rintro m σ G ⟨j,res,times,v6,v7,rfl,hj,sG,hres,hcg,rfl⟩
  refine ⟨_,rfl,_,rfl,_,_,rfl,rfl,⟨bg_le (n:=2) (by decide) (by decide +kernel),bB⟩,_,_,rfl,rfl,_,rfl,?_⟩
  by_cases hle:Dt.md j<=2*B
  ·refine itP (decide_eq_true (by omega)) ?_
   have hj7:j<7:=by
    rcases Nat.lt_or_ge j 7 with z | z
    ·exact z
    ·rw [show j=7 by omega] at hle
     omega
   obtain ⟨k1,k2,k3,k4⟩:=Dt.pr_ok j hj7
   have ePr:=pr_eq j hj7
   have hpp:=Dt.pr_prime hj7
   have hp1:=hpp.1
   have l1:=lt8000 k1 (by decide)
   have l3:=lt8000 k3 (by decide)
   have l4:=lt8000 k4 (by decide)
   have bP:Bg ((Dt.pr j:Nat):Int):=bg_le (by rw [Int.natAbs_natCast];exact Nat.le_refl _) l1
   have bM:Bg ((Dt.md j:Nat):Int):=bg_le (by rw [Int.natAbs_natCast];exact Nat.le_refl _) l3
   refine ⟨_,fun σ' H' z=>z,?_⟩
   refine ⟨_,rfl,_,rfl,j,times,rfl,hj7,?_⟩
   refine ⟨_,rfl,_,_,rfl,rfl,?_⟩
   refine ⟨_,rfl,_,_,rfl,rfl,⟨bg_le (Nat.le_of_lt (kts_le j hj7)) (lt8000 (k:=21) (by decide +kernel) (by decide)),bg_le (n:=2 ^ 200) (by decide +kernel) (lt8000 (k:=201) (by decide +kernel) (by decide))⟩,_,_,rfl,rfl,?_⟩
   refine ⟨_,rfl,_,rfl,a,as,M,n,Dt.pr j,2 ^ 110,congrArg (fun z=>[V.ref a,V.int z]) ePr,sG.seq hA,hR.on sG,ok.rest hpp k1,fun r2 G3 s3 hr2 hc2=>?_⟩
   rw [hDD] at hc2
   refine ⟨_,rfl,_,_,rfl,rfl,?_⟩
   refine ⟨_,rfl,_,rfl,_,rfl,_,rfl,((Dt.md j:Nat):Int),Dt.pr j,congrArg (fun z=>[V.int ((Dt.md j:Nat):Int),V.int z]) ePr,hpp,Nat.lt_of_lt_of_le k1 (Nat.pow_le_pow_right (by decide) (by decide)),(fun z=>k2 (by exact_mod_cast z)),fun inv hi hib=>?_⟩
   have q1:=Int.emod_nonneg ((r2-res)*inv) (show ((Dt.pr j:Nat):Int)≠0 by omega)
   have q2:=Int.emod_lt_of_pos ((r2-res)*inv) (show (0:Int)<((Dt.pr j:Nat):Int) by omega)
   obtain ⟨c1,c2,c3⟩:=Dt.crt (M1:=Dt.md j) (pr:=Dt.pr j) (D:=DD) (res:=res) (r2:=r2) (inv:=inv) (by omega) (by omega) hcg hc2 hi hres
   refine ⟨_,_,rfl,rfl,⟨bg_le (n:=Dt.md j+Dt.pr j) (by omega) (Nat.lt_of_lt_of_le (Nat.add_lt_add k3 k1) (by decide +kernel)),bg_le (n:=Dt.pr j) (by omega) l1⟩,_,rfl,_,_,rfl,rfl,(by show (0:Int)<_;rw [ePr];omega),_,rfl,_,_,rfl,rfl,⟨?_,bM⟩,_,_,rfl,rfl,?_⟩
   ·show Bg ((r2-res)*inv % _)
    rw [ePr]
    exact bg_le (n:=Dt.pr j) (by omega) l1
   refine ⟨_,rfl,_,rfl,_,_,rfl,rfl,⟨bM,by rw [ePr];exact bP⟩,?_⟩
   refine ⟨7-(j+1),by omega,j+1,res+(r2-res)*inv % (Dt.pr j:Nat)*(Dt.md j:Nat),kts.getD j 0,some (.int (kts.getD j 0*6277101735386680763835789423207666416102355444464034512896+1)),some (.int (r2-res)),rfl,by omega,sG.trans s3,⟨c2,c3⟩,c1,?_⟩
   rw [<- ePr,show ((Dt.md (j+1):Nat):Int)=(Dt.md j:Nat)*(kts.getD j 0*6277101735386680763835789423207666416102355444464034512896+1) by rw [ePr];exact Int.natCast_mul ..]
   rfl
  ·refine itN (fun z=>hle (by have:=of_decide_eq_true z;omega)) ?_
   have hfr:=Dt.from_rest (M:=Dt.md j) (D:=DD) (res:=res) (bd:=(B:Nat)) (by omega) (by omega) hcg hres
   refine ⟨_,rfl,_,rfl,_,_,rfl,rfl,_,rfl,?_⟩
   by_cases hgt:((B:Nat):Int)<res
   ·rw [if_pos hgt] at hfr
    refine itP (decide_eq_true hgt) ?_
    refine ⟨_,rfl,_,rfl,_,_,rfl,rfl,?_⟩
    rw [<- hfr] at q
    exact q G sG
   ·rw [if_neg hgt] at hfr
    refine itN (fun z=>hgt (of_decide_eq_true z)) ?_
    rw [<- hfr] at q
    exact ⟨_,rfl,q G sG⟩
def cntE (words:List (List Nat))(o:List Nat):Int:=((words.countP fun w=>decide (w.drop 1=o):Nat):Int)
def rowI (texts:List (List Nat))(t:List Nat)(words:List (List Nat)):List Int:=texts.map fun o=>if o=t then ((words.length:Nat):Int)-cntE words t else-cntE words o
theorem count_T {words:List (List Nat)}{o:List Nat}:((((words.map fun w=>w.drop 1).map T).countP fun y=>eqV y (T o):Nat):Int)=cntE words o:=by
 unfold cntE
 rw [List.map_map,List.countP_map]
 congr 2
 funext w
 show (tx (w.drop 1)==tx o)=decide (w.drop 1=o)
 rw [Bool.eq_iff_iff,beq_iff_eq,decide_eq_true_iff]
 exact ⟨fun h=>tx_inj h,fun h=>by rw [h]⟩
def spRowC (K:PySem.W.Frag):Sp:=fun vs H Q _=>∃ (a b:Addr) (texts words:List (List Nat)) (t:List Nat),vs=[.ref a,T t,.ref b]∧SqL K H a (texts.map T)∧SqL K H b (words.map T)∧(texts.length<=200∧words.length<=200∧∀ x∈words,1<=x.length∧x.length<=1000)∧∀ D H',H D=none->Same H H'->H' D=some (.lst ((rowI texts t words).map V.int))->Q (.ref D) H'
theorem ok_choice_row {f:Addr}{fd:FuncData}(F:Fun K "choice_row" "choice_row" s_choice_row f fd)(tt:Txt K mg ad)(C_end_of:Cal P w K mg base (CX1 P w) "end_of" 1 ["word"] spEnd):FnOk P w K mg base (CX1 P w) 2 f fd ["texts", "text", "words"] (spRowC K):=by
 refine F.okN sc_choice_row (fun vs H Q E h=>?_) (fun cdv A outer s H vs Q E hr h=>?_)
 ·obtain ⟨a,b,texts,words,t,rfl,_⟩:=h
  rfl
 ·obtain ⟨a,b,texts,words,t,rfl,hA,hB,⟨h1,h2,h3⟩,q⟩:=h
  have hs:sizeLine=16777216:=sizeLine_eq
  refine ⟨_,(pss_cons (ps_set (i:=3) sc_choice_row.nd rfl (Or.inr rfl) (pe_comp cs_choice_row_0 rfl (pi_list (pv 2)) (fun cl C s' H' fp=>(pe_cal C_end_of hr pass1 (pa_cons (pv 0) pa_nil)))))
   (pss_one (ps_ret (pe_comp cs_choice_row_1 rfl (pi_list (pv 0)) (fun cl C s' H' fp=>(pe_ifExp (pt_cmpR op_eq_T (pv 0) (pv 2) (nomark _)) (pe_op op_sub (pe_callB (call_len_K K rfl) (by rfl) tt.b_len PySem.boot_len (pa_cons (pv 4) pa_nil)) (pe_bmK K rfl PySem.F.plainAttrs_list PySem.F.slot_list_count PySem.F.type_list_count (mt_countK K rfl) (pv 4) (pa_cons (pv 2) pa_nil))) (pe_un un_neg (pe_bmK K rfl PySem.F.plainAttrs_list PySem.F.slot_list_count PySem.F.type_list_count (mt_countK K rfl) (pv 4) (pa_cons (pv 0) pa_nil))))))))),?_⟩
  (try rw [cxK2]);(try rw [cxK1])
  refine ⟨_,rfl,b,rfl,⟨_,hB⟩,?_⟩
  refine compG (fun v=>T ((unT v).drop 1)) (reads_list hB) (by rw [List.length_map];omega) (fun v G hv sg N hN=>?_) fun D1 G1 hD1 s1 hd1=>?_
  ·obtain ⟨l,hl,rfl⟩:=List.mem_map.mp hv
   have z:=hN G (Same.refl _)
   rw [unT_T] at z
   have hx:=h3 l hl
   exact ⟨_,rfl,l,rfl,⟨by omega,by omega⟩,z⟩
  have hd1:G1 D1=some (.lst ((words.map fun w=>w.drop 1).map T)):=by
   rw [hd1,List.map_map,List.map_map]
   refine congrArg (fun l=>some (HO.lst l)) (List.map_congr_left fun m _=>?_)
   show T ((unT (T m)).drop 1)=T (m.drop 1)
   rw [unT_T]
  refine ⟨_,rfl,a,rfl,⟨_,s1.seq hA⟩,?_⟩
  refine compG (fun v=>.int (if unT v=t then ((words.length:Nat):Int)-cntE words t else-cntE words (unT v))) (reads_list (s1.seq hA)) (by rw [List.length_map];omega) (fun v G hv sg N hN=>?_) fun D2 G2 hD2 s2 hd2=>?_
  ·obtain ⟨o,ho,rfl⟩:=List.mem_map.mp hv
   have z:=hN G (Same.refl _)
   rw [unT_T] at z
   have hdG:=sg D1 _ hd1
   refine ⟨_,rfl,_,rfl,_,rfl,_,rfl,_,rfl,?_⟩
   by_cases hot:o=t
   ·rw [if_pos hot] at z
    refine itP (decide_eq_true hot) ?_
    refine ⟨_,rfl,D1,_,rfl,.inl (SqL.of hdG),_,rfl,.inl ⟨rfl,_,SqL.of hdG⟩,_,rfl,D1,_,_,rfl,rfl,SqL.of hdG,all_flat _,rfl,_,_,rfl,rfl,?_⟩
    rw [count_T,List.length_map,List.length_map]
    exact z
   ·rw [if_neg hot] at z
    refine itN (fun y=>hot (of_decide_eq_true y)) ?_
    refine ⟨_,rfl,.inl ⟨rfl,_,SqL.of hdG⟩,_,rfl,D1,_,_,rfl,rfl,SqL.of hdG,all_flat _,rfl,_,rfl,?_⟩
    rw [count_T]
    exact z
  have hD0:H D2=none:=by
   cases e:H D2 with
   | none=>rfl
   | some o=>have:=s1 D2 o e;rw [hD2] at this;cases this
  refine q D2 G2 hD0 (s1.trans s2) ?_
  rw [hd2]
  unfold rowI
  rw [List.map_map,List.map_map]
  refine congrArg (fun l=>some (HO.lst l)) (List.map_congr_left fun m _=>?_)
  show V.int (if unT (T m)=t then _ else _)=V.int (if m=t then _ else _)
  rw [unT_T]
inductive WaysAt (H:Hp)(g:List Nat->List (List Nat)):List (List Nat)->List (Key×V)->Prop
 | nil:WaysAt H g [] []
 | cons {o:List Nat} {a:Addr} {ls:List (List Nat)} {kvs:List (Key×V)}:H a=some (.lst ((g o).map T))->WaysAt H g ls kvs->WaysAt H g (o::ls) ((Sum.inr (tx o),.ref a)::kvs)
theorem WaysAt.keys {H:Hp}{g:List Nat->List (List Nat)}{ls:List (List Nat)}{kvs:List (Key×V)}(h:WaysAt H g ls kvs):kvs.map (·.1)=ls.map fun t=>Sum.inr (tx t):=by
 induction h with
 | nil=>rfl
 | cons _ _ ih=>rw [List.map_cons,List.map_cons,ih]
theorem WaysAt.len {H:Hp}{g:List Nat->List (List Nat)}{ls:List (List Nat)}{kvs:List (Key×V)}(h:WaysAt H g ls kvs):kvs.length=ls.length:=by
 have:=congrArg List.length h.keys
 rwa [List.length_map,List.length_map] at this
theorem WaysAt.mono {H H':Hp}{g:List Nat->List (List Nat)}{ls:List (List Nat)}{kvs:List (Key×V)}(s:Same H H')(h:WaysAt H g ls kvs):WaysAt H' g ls kvs:=by
 induction h with
 | nil=>exact .nil
 | cons e _ ih=>exact .cons (s _ _ e) ih
theorem WaysAt.updD {H:Hp}{g:List Nat->List (List Nat)}{ls:List (List Nat)}{kvs k:List (Key×V)}{D:Addr}{o:HO}(hd:H D=some (.dK k))(h:WaysAt H g ls kvs):WaysAt (upd H D o) g ls kvs:=by
 induction h with
 | nil=>exact .nil
 | @cons _ a _ _ e _ ih =>
  have hne:a≠D:=fun z=>by rw [z,hd] at e;cases e
  exact .cons (by rw [upd_ne hne];exact e) ih
theorem WaysAt.snoc {H:Hp}{g:List Nat->List (List Nat)}{ls:List (List Nat)}{kvs:List (Key×V)}{o:List Nat}{a:Addr}(h:WaysAt H g ls kvs)(e:H a=some (.lst ((g o).map T))):WaysAt H g (ls++[o]) (kvs++[(Sum.inr (tx o),.ref a)]):=by
 induction h with
 | nil=>exact .cons e .nil
 | cons e1 _ ih=>exact .cons e1 ih
theorem WaysAt.get {H:Hp}{g:List Nat->List (List Nat)}{ls:List (List Nat)}{kvs:List (Key×V)}{o:List Nat}(h:WaysAt H g ls kvs)(ho:o∈ls):∃ a,valV kvs (Sum.inr (tx o))=some (.ref a)∧H a=some (.lst ((g o).map T)):=by
 induction h with
 | nil=>cases ho
 | @cons o' a _ _ e _ ih =>
  by_cases hoo:o'=o
  ·subst hoo
   exact ⟨a,valV_pos rfl,e⟩
  ·obtain ⟨b,h1,h2⟩:=ih ((List.mem_cons.mp ho).resolve_left (Ne.symm hoo))
   exact ⟨b,by rw [valV_neg (fun z=>hoo (tx_inj (Sum.inr.inj z)))];exact h1,h2⟩
theorem back_none31 {H G:Hp}{D:Addr}(s:Same H G)(h:G D=none):H D=none:=by
 cases e:H D with
 | none=>rfl
 | some o=>exact absurd ((s D o e).symm.trans h) (fun z=>nomatch z)
def chMat (ls:List (List Nat))(g:List Nat->List (List Nat)):List (List Int):=ls.map fun t=>rowI ls t (g t)
def spChoices (K:PySem.W.Frag):Sp:=fun vs H Q _=>∃ (a:Addr) (ls:List (List Nat)) (kvs:List (Key×V)) (g:List Nat->List (List Nat)),vs=[.ref a]∧H a=some (.dK kvs)∧WaysAt H g ls kvs∧(ls.length<=64∧∀ o∈ls,(g o).length<=200∧∀ x∈g o,1<=x.length∧x.length<=1000) ∧
 SqOk (chMat ls g) ls.length∧2*Dt.pL ((chMat ls g).map (Dt.rs ls.length))<Dt.md 7∧∀ H',Same H H'->Q (.int (Dt.det ls.length (Dt.ent (chMat ls g)))) H'
theorem ok_choices_counted {f:Addr}{fd:FuncData}(F:Fun K "choices_counted" "choices_counted" s_choices_counted f fd)(tt:Txt K mg ad)(C_determinant:Cal P w K mg base (CX1 P w) "determinant" 3 ["square"] (spDet K))(C_choice_row:Cal P w K mg base (CX1 P w) "choice_row" 2 ["texts", "text", "words"] (spRowC K)) :
  FnOk P w K mg base (CX1 P w) 4 f fd ["ways"] (spChoices K):=by
 refine F.okN sc_choices_counted (fun vs H Q E h=>?_) (fun cdv A outer s H vs Q E hr h=>?_)
 ·obtain ⟨a,ls,kvs,g,rfl,_⟩:=h
  rfl
 ·obtain ⟨a,ls,kvs,g,rfl,hd,hwa,⟨h64,hg⟩,hsq,hpl,q⟩:=h
  have hs:sizeLine=16777216:=sizeLine_eq
  refine ⟨_,(pss_cons (ps_set (i:=1) sc_choices_counted.nd rfl (Or.inr rfl) (pe_callTy (call_listD rfl) (by rfl) tt.b_list (by decide +kernel) (pa_cons (pv 0) pa_nil)))
   (pss_one (ps_ret (pe_cal C_determinant hr pass1 (pa_cons (pe_comp cs_choices_counted_0 rfl (pi_list (pv 1)) (fun cl C s' H' fp=>(pe_cal C_choice_row hr pass1 (pa_cons (pv 2) (pa_cons (pv 0) (pa_cons (pe_dget (hu_of hr) (pv 1) (pv 0) (fun _ _=>rfl)) pa_nil)))))) pa_nil))))),?_⟩
  (try rw [cxK2]);(try rw [cxK1])
  refine ⟨_,rfl,a,ls,kvs,rfl,hd,hwa.keys,fun D1 hD1=>?_⟩
  have s1:=same_upd (o:=.lst (ls.map T)) hD1
  refine ⟨_,rfl,D1,rfl,⟨_,SqL.of upd_same⟩,?_⟩
  refine compVR (K:=K) (fun v=>rowI ls (unT v) (g (unT v))) (reads_list (SqL.of upd_same)) (by rw [List.length_map];omega) (fun v G hv sg N hN=>?_) fun D2 bs G2 hD2 s2 hd2 hne2 hR2=>?_
  ·obtain ⟨t,ht,rfl⟩:=List.mem_map.mp hv
   rw [unT_T] at hN
   obtain ⟨b,hb1,hb2⟩:=((hwa.mono s1).mono sg).get ht
   have hget:DGet G a (T t) (some (.ref b)):=by rw [<- hb1];exact DGet.k (k:=Sum.inr (tx t)) (sg a _ (s1 a _ hd))
   have hgt:=hg t ht
   exact ⟨_,rfl,_,rfl,_,rfl,_,rfl,a,_,rfl,hget,D1,b,ls,g t,t,rfl,SqL.of (sg D1 _ upd_same),SqL.of hb2,⟨by omega,hgt.1,hgt.2⟩,fun D H' hD s' hd'=>hN D H' s' hD hd'⟩
  rw [show (ls.map T).map (fun v=>rowI ls (unT v) (g (unT v)))=chMat ls g from by
   unfold chMat
   rw [List.map_map]
   refine List.map_congr_left fun m _=>?_
   show rowI ls (unT (T m)) (g (unT (T m)))=_
   rw [unT_T]] at hR2
  exact ⟨D2,bs,chMat ls g,ls.length,rfl,SqL.of hd2,hR2,hsq,hpl,fun H' s'=>q H' ((s1.trans s2).trans s')⟩
theorem valV_ways {H:Hp}{g:List Nat->List (List Nat)}{ls:List (List Nat)}{kvs:List (Key×V)}(h:WaysAt H g ls kvs){o:List Nat}(ho:o∉ls):valV kvs (Sum.inr (tx o))=none:=by
 induction h with
 | nil=>rfl
 | @cons o' a _ _ e _ ih =>
  rw [valV_neg (fun z=>ho (by rw [tx_inj (Sum.inr.inj z)];exact List.mem_cons_self ..))]
  exact ih fun z=>ho (List.mem_cons_of_mem _ z)
theorem WaysAt.cong {H:Hp}{g g':List Nat->List (List Nat)}{ls:List (List Nat)}{kvs:List (Key×V)}(h:WaysAt H g ls kvs)(e:∀ t∈ls,g t=g' t):WaysAt H g' ls kvs:=by
 induction h with
 | nil=>exact .nil
 | @cons o a _ _ e1 _ ih=>exact .cons (by rw [<- e o (List.mem_cons_self ..)];exact e1) (ih fun t ht=>e t (List.mem_cons_of_mem _ ht))
theorem cntE_le {words:List (List Nat)}{o:List Nat}:(cntE words o).natAbs<=words.length:=by
 unfold cntE
 have:=List.countP_le_length (p:=fun w=>decide (w.drop 1=o)) (l:=words)
 omega
theorem rowI_abs {texts words:List (List Nat)}{t:List Nat}{x:Int}(hx:x∈rowI texts t words):x.natAbs<=words.length:=by
 obtain ⟨o,_,rfl⟩:=List.mem_map.mp hx
 have h1:=cntE_le (words:=words) (o:=t)
 have h2:=cntE_le (words:=words) (o:=o)
 have h3:0<=cntE words t:=Int.natCast_nonneg _
 show (if o=t then ((words.length:Nat):Int)-cntE words t else-cntE words o).natAbs<=_
 split <;> omega
theorem sN_bound {f:Nat->Nat}{c:Nat}:∀ {n:Nat},(∀ j,j<n->f j<=c)->Dt.sN n f<=n*c:=fun {n} h=>by
 have h1:Dt.sN n f<=Dt.sN n fun _=>1*c:=Dt.sN_le fun j hj=>by rw [Nat.one_mul];exact h j hj
 have h2:∀ n:Nat,Dt.sN n (fun _=>1)=n:=fun n=>by
  induction n with
  | zero=>rfl
  | succ n ih=>show Dt.sN n (fun _=>1)+1=n+1;rw [ih]
 rw [Dt.sN_mul,h2] at h1
 exact h1
theorem chMat_ok {ls:List (List Nat)}{g:List Nat->List (List Nat)}(h64:ls.length<=64)(hg:∀ o∈ls,(g o).length<=64):SqOk (chMat ls g) ls.length∧2*Dt.pL ((chMat ls g).map (Dt.rs ls.length))<Dt.md 7:=by
 have hrow:∀ r∈chMat ls g,Dt.rs ls.length r<=4096:=fun r hr=>by
  obtain ⟨t,ht,rfl⟩:=List.mem_map.mp hr
  have h1:Dt.rs ls.length (rowI ls t (g t))<=ls.length*64:=sN_bound fun j hj=>by
   have hl:j<(rowI ls t (g t)).length:=by unfold rowI;rw [List.length_map];exact hj
   rw [List.getD_eq_getElem?_getD,List.getElem?_eq_getElem hl]
   exact Nat.le_trans (rowI_abs (List.getElem_mem hl)) (hg t ht)
  omega
 have hlen:(chMat ls g).length=ls.length:=List.length_map ..
 refine ⟨⟨hlen,fun r hr=>?_,h64,fun r hr=>Nat.le_trans (hrow r hr) (by decide)⟩,?_⟩
 ·obtain ⟨t,_,rfl⟩:=List.mem_map.mp hr
  exact List.length_map ..
 ·have h1:=Dt.pL_le (R:=4096) (l:=(chMat ls g).map (Dt.rs ls.length)) fun x hx=>by
   obtain ⟨r,hr,rfl⟩:=List.mem_map.mp hx
   exact hrow r hr
  rw [List.length_map,hlen] at h1
  have h2:4096 ^ ls.length<=4096 ^ 64:=Nat.pow_le_pow_right (by decide) h64
  have h3:2*4096 ^ 64<Dt.md 7:=by decide +kernel
  exact Nat.lt_of_le_of_lt (Nat.mul_le_mul_left 2 (Nat.le_trans h1 h2)) h3
theorem det_ch {ts:List (List Nat)}(nd:ts.Nodup)(g:List Nat->List (List Nat)):Dt.det ts.length (Dt.ent (chMat ts g))=((Dt.nC ts g:Nat):Int):=Dt.det_nC nd g
def spEven (K:PySem.W.Frag):Sp:=fun vs H Q _=>∃ (a:Addr) (ms:List (List Nat)) (one other:List Nat),vs=[.ref a,T one,T other]∧SqA K H a (ms.map T)∧(ms.length<=60∧∀ x∈ms,1<=x.length∧x.length<=1000)∧∀ (b:Bool) (H':Hp),Same H H'->(b=true↔Wd.Bal ms one other)->Q (.bl b) H'
theorem ok_is_even {f:Addr}{fd:FuncData}(F:Fun K "is_even" "is_even" s_is_even f fd)(tt:Txt K mg ad)(C_begin_of:Cal P w K mg base (CX1 P w) "begin_of" 1 ["word"] spBegin)(C_end_of:Cal P w K mg base (CX1 P w) "end_of" 1 ["word"] spEnd):FnOk P w K mg base (CX1 P w) 2 f fd ["words", "one", "other"] (spEven K):=by
 refine F.okN sc_is_even (fun vs H Q E h=>?_) (fun cdv A outer s H vs Q E hr h=>?_)
 ·obtain ⟨a,ms,one,other,rfl,_⟩:=h
  rfl
 ·obtain ⟨a,ms,one,other,rfl,hS,⟨hl,hx⟩,q⟩:=h
  have hs:sizeLine=16777216:=sizeLine_eq
  have hu:=Nat.lt_of_succ_lt (hu_of hr)
  refine ⟨_,(pss_cons (ps_set (i:=3) sc_is_even.nd rfl (Or.inl rfl) (pe_op op_catL (pe_comp cs_is_even_0 rfl (pi_seqK K rfl (pv 0)) (fun cl C s' H' fp=>(pe_cal C_begin_of hr pass1 (pa_cons (pv 0) pa_nil)))) (pe_lst (pa_cons (pv 2) pa_nil))))
   (pss_cons (ps_set (i:=4) sc_is_even.nd rfl (Or.inl rfl) (pe_op op_catL (pe_comp cs_is_even_1 rfl (pi_seqK K rfl (pv 0)) (fun cl C s' H' fp=>(pe_cal C_end_of hr pass1 (pa_cons (pv 0) pa_nil)))) (pe_lst (pa_cons (pv 1) pa_nil))))
   (pss_one (ps_ret (pe_cmpR (op_eq_LT hu) (pe_callB call_sortedT (by rfl) tt.b_sorted PyProof.Rows.boot_sorted (pa_cons (pv 3) pa_nil)) (pe_callB call_sortedT (by rfl) tt.b_sorted PyProof.Rows.boot_sorted (pa_cons (pv 4) pa_nil)) (nomark _)))))),?_⟩
  (try rw [cxK2]);(try rw [cxK1])
  refine ⟨_,rfl,a,ms.map T,_,rfl,hS,Same.refl _,fun J rd=>?_⟩
  refine compG (fun v=>T (beg (unT v))) rd (by rw [List.length_map];omega) (fun v G hv sg N hN=>?_) fun D1 H1 hD1 s1 hd1=>?_
  ·obtain ⟨l,hl,rfl⟩:=List.mem_map.mp hv
   have z:=hN G (Same.refl _)
   rw [unT_T] at z
   have hx:=hx l hl
   exact ⟨_,rfl,l,rfl,⟨by omega,by omega⟩,z⟩
  rw [map_unT (f:=fun l=>T (beg l)),show ms.map (fun l=>T (beg l))=(ms.map beg).map T by rw [List.map_map];rfl] at hd1
  refine ⟨_,rfl,(by show 1<=sizeLine;omega),fun e1 he1=>?_⟩
  have t1:=same_upd (o:=.lst [T other]) he1
  refine ⟨D1,e1,_,_,rfl,rfl,SqL.of (t1 D1 _ hd1),SqL.of upd_same,(by rw [List.length_map,List.length_map];show _+1<=sizeLine;omega),fun D2 hD2=>?_⟩
  have t2:=s1.trans (t1.trans (same_upd (o:=.lst ((ms.map beg).map T++[T other])) hD2))
  have hd2:upd (upd H1 e1 (.lst [T other])) D2 (.lst ((ms.map beg).map T++[T other])) D2=some (.lst ((ms.map beg++[other]).map T)):=by rw [upd_same,List.map_append];rfl
  generalize upd (upd H1 e1 (.lst [T other])) D2 (.lst ((ms.map beg).map T++[T other]))=H2 at t2 hd2
  refine ⟨_,rfl,a,ms.map T,_,rfl,hS.on t2,Same.refl _,fun J rd=>?_⟩
  refine compG (fun v=>T ((unT v).drop 1)) rd (by rw [List.length_map];omega) (fun v G hv sg N hN=>?_) fun D3 H3 hD3 s3 hd3=>?_
  ·obtain ⟨l,hl,rfl⟩:=List.mem_map.mp hv
   have z:=hN G (Same.refl _)
   rw [unT_T] at z
   have hx:=hx l hl
   exact ⟨_,rfl,l,rfl,⟨by omega,by omega⟩,z⟩
  rw [map_unT (f:=fun l=>T (l.drop 1)),show ms.map (fun l=>T (l.drop 1))=(ms.map fun l=>l.drop 1).map T by rw [List.map_map];rfl] at hd3
  refine ⟨_,rfl,(by show 1<=sizeLine;omega),fun e2 he2=>?_⟩
  have t3:=same_upd (o:=.lst [T one]) he2
  refine ⟨D3,e2,_,_,rfl,rfl,SqL.of (t3 D3 _ hd3),SqL.of upd_same,(by rw [List.length_map,List.length_map];show _+1<=sizeLine;omega),fun D4 hD4=>?_⟩
  have t4:=s3.trans (t3.trans (same_upd (o:=.lst ((ms.map fun l=>l.drop 1).map T++[T one])) hD4))
  have hd4:upd (upd H3 e2 (.lst [T one])) D4 (.lst ((ms.map fun l=>l.drop 1).map T++[T one])) D4=some (.lst (((ms.map fun l=>l.drop 1)++[one]).map T)):=by rw [upd_same,List.map_append];rfl
  generalize upd (upd H3 e2 (.lst [T one])) D4 (.lst ((ms.map fun l=>l.drop 1).map T++[T one]))=H4 at t4 hd4
  refine ⟨_,rfl,D2,ms.map beg++[other],rfl,SqL.of (t4 D2 _ hd2),(by rw [List.length_append,List.length_map];show _+1<64;omega),fun so1 E1 hE1 hp1 hw1=>?_⟩
  have t5:=same_upd (o:=.lst (so1.map T)) hE1
  refine ⟨_,rfl,D4,(ms.map fun l=>l.drop 1)++[one],rfl,SqL.of (t5 D4 _ hd4),(by rw [List.length_append,List.length_map];show _+1<64;omega),fun so2 E2 hE2 hp2 hw2=>?_⟩
  have t6:=same_upd (o:=.lst (so2.map T)) hE2
  refine ⟨E1,E2,so1,so2,rfl,rfl,SqL.of (t6 E1 _ upd_same),SqL.of upd_same,?_⟩
  refine q _ _ (t2.trans (t4.trans (t5.trans t6))) ?_
  rw [decide_eq_true_iff,<- Dt.bal_iff]
  constructor
  ·intro e
   subst e
   exact hp1.symm.trans hp2
  ·intro h
   exact Wd.sorted_same (hp1.trans (List.Perm.trans h hp2.symm)) hw1 hw2
theorem WaysAt.app {G:Hp}{g:List Nat->List (List Nat)}{ts:List (List Nat)}{kvs:List (Key×V)}{t x:List Nat}{b:Addr}(h:WaysAt G g ts kvs):ts.Nodup->(kvs.map (·.2)).Nodup->t∈ts->valV kvs (Sum.inr (tx t))=some (.ref b)->WaysAt (upd G b (.lst ((g t++[x]).map T))) (fun u=>if u=t then g t++[x] else g u) ts kvs:=by
 have vm:∀ {kvs:List (Key×V)} {k:Key} {v:V},valV kvs k=some v->v∈kvs.map (·.2):=fun {kvs k v}=>by
  induction kvs with
  | nil=>intro e;cases e
  | cons kv kvs ih =>
   intro e
   obtain ⟨k',v'⟩:=kv
   by_cases hk:k'=k
   ·rw [valV_pos hk] at e
    cases e
    exact List.mem_cons_self ..
   ·rw [valV_neg hk] at e
    exact List.mem_cons_of_mem _ (ih e)
 have no:∀ {ts:List (List Nat)} {kvs:List (Key×V)},WaysAt G g ts kvs->t∉ts->V.ref b∉kvs.map (·.2)->WaysAt (upd G b (.lst ((g t++[x]).map T))) (fun u=>if u=t then g t++[x] else g u) ts kvs:=fun {ts kvs} h=>by
  induction h with
  | nil=>intro _ _;exact .nil
  | @cons o a _ _ e _ ih =>
   intro h1 h2
   have hne:o≠t:=fun z=>h1 (z▸List.mem_cons_self ..)
   have hab:a≠b:=fun z=>h2 (z▸List.mem_cons_self ..)
   exact .cons (by rw [upd_ne hab,if_neg hne];exact e) (ih (fun z=>h1 (List.mem_cons_of_mem _ z)) fun z=>h2 (List.mem_cons_of_mem _ z))
 induction h with
 | nil=>intro _ _ h;cases h
 | @cons o a _ _ e hr ih =>
  intro nd nv ht hv
  rw [List.nodup_cons] at nd
  rw [List.map_cons,List.nodup_cons] at nv
  by_cases hot:o=t
  ·subst hot
   rw [valV_pos rfl] at hv
   cases hv
   exact .cons (by rw [upd_same,if_pos rfl]) (no hr nd.1 nv.1)
  ·rw [valV_neg (fun z=>hot (tx_inj (Sum.inr.inj z)))] at hv
   have hab:a≠b:=fun z=>nv.1 (z▸vm hv)
   exact .cons (by rw [upd_ne hab,if_neg hot];exact e) (ih nd.2 nv.2 ((List.mem_cons.mp ht).resolve_left (Ne.symm hot)) hv)
theorem og_snoc {us:List (List Nat)}{x t:List Nat}:Dt.og (us++[x]) t=if t=beg x then Dt.og us t++[x] else Dt.og us t:=by
 unfold Dt.og
 rw [List.filter_append]
 by_cases h:t=beg x
 ·rw [if_pos h,List.filter_cons_of_pos (p:=fun w=>decide (Wd.beg w=t)) (decide_eq_true h.symm),List.filter_nil]
 ·rw [if_neg h,List.filter_cons_of_neg (p:=fun w=>decide (Wd.beg w=t)) (fun z=>h (of_decide_eq_true z).symm),List.filter_nil,List.append_nil]
def spByB (K:PySem.W.Frag):Sp:=fun vs H Q _=>∃ (a:Addr) (ms:List (List Nat)),vs=[.ref a]∧SqA K H a (ms.map T)∧(ms.length<=1000∧∀ x∈ms,1<=x.length∧x.length<=1000)∧∀ (D:Addr) (kvs:List (Key×V)) (ts:List (List Nat)) (H':Hp),H D=none->Same H H'->H' D=some (.dK kvs)->WaysAt H' (Dt.og ms) ts kvs->ts.Nodup->(∀ t,t∈ts↔∃ x∈ms,beg x=t)->Q (.ref D) H'
theorem ok_by_begin {f:Addr}{fd:FuncData}(F:Fun K "by_begin" "by_begin" s_by_begin f fd)(tt:Txt K mg ad)(C_begin_of:Cal P w K mg base (CX1 P w) "begin_of" 1 ["word"] spBegin):FnOk P w K mg base (CX1 P w) 2 f fd ["words"] (spByB K):=by
 refine F.okN sc_by_begin (fun vs H Q E h=>?_) (fun cdv A outer s H vs Q E hr h=>?_)
 ·obtain ⟨a,ms,rfl,_⟩:=h
  rfl
 ·obtain ⟨a,ms,rfl,hS,⟨hl,hx⟩,q⟩:=h
  have hs:sizeLine=16777216:=sizeLine_eq
  refine ⟨_,(pss_cons (ps_set (i:=1) sc_by_begin.nd rfl (Or.inl rfl) pe_dnewK)
   (pss_cons (ps_for PassesOwn.never rfl (pi_seqK K rfl (pv 0)) (pg_name (i:=2) sc_by_begin.nd rfl (Or.inl rfl)) (pss_one (ps_expr (pe_bm PySem.F.plainAttrs_list PySem.F.slot_list_append PySem.F.type_list_append mt_append (pe_dsetdef (pv 1) (pe_cal C_begin_of hr pass1 (pa_cons (pv 2) pa_nil)) (pe_lst pa_nil) ⟨rfl,rfl,rfl,rfl⟩) (pa_cons (pv 2) pa_nil)))))
   (pss_one (ps_ret (pv 1))))),?_⟩
  (try rw [cxK2]);(try rw [cxK1])
  refine fun D hD=>?_
  have sD:=same_upd (o:=.dK []) hD
  refine ⟨_,rfl,a,ms.map T,_,rfl,hS,sD,fun J rd=>?_⟩
  refine for_reads rd (fun i σ G=>Same H G∧∃ (kvs:List (Key×V)) (ts:List (List Nat)) (v2:Option V),G D=some (.dK kvs)∧WaysAt G (Dt.og (ms.take i)) ts kvs∧ts.Nodup∧(kvs.map (·.2)).Nodup∧(∀ b,V.ref b∈kvs.map (·.2)->H b=none)∧ts.length<=i∧(∀ t,t∈ts↔∃ x∈ms.take i,beg x=t)∧σ=[some (.ref a),some (.ref D),v2])
   ⟨sD,[],[],none,upd_same,.nil,List.nodup_nil,List.nodup_nil,fun b h=>(nomatch h),Nat.le_refl _,fun t=>⟨fun h=>(nomatch h),fun ⟨x,h,_⟩=>by rw [List.take_zero] at h;cases h⟩,rfl⟩ (fun i σ G _ h=>h.1) ?_ ?_
  ·rintro i y σ G hi ⟨sG,kvs,ts,v2,hd,hwa,nd,nv,hf,hlt,hm,rfl⟩
   obtain ⟨x,hxi,rfl⟩:∃ x,ms[i]?=some x∧T x=y:=by rw [List.getElem?_map] at hi;exact Option.map_eq_some_iff.mp hi
   have hil:=(List.getElem?_eq_some_iff.mp hxi).1
   have hxx:=hx x (List.mem_of_getElem? hxi)
   have htk:ms.take (i+1)=ms.take i++[x]:=by rw [List.take_add_one,hxi];rfl
   have hm2:∀ t,(∃ y∈ms.take (i+1),beg y=t)↔(∃ y∈ms.take i,beg y=t)∨t=beg x:=fun t=>by
    rw [htk]
    constructor
    ·rintro ⟨y,h1,h2⟩
     rcases List.mem_append.mp h1 with z | z
     ·exact .inl ⟨y,z,h2⟩
     ·rw [List.mem_singleton.mp z] at h2
      exact .inr h2.symm
    ·rintro (⟨y,h1,h2⟩ | h)
     ·exact ⟨y,List.mem_append_left _ h1,h2⟩
     ·exact ⟨x,List.mem_append_right _ (List.mem_singleton.mpr rfl),h.symm⟩
   have hgl:∀ t,(Dt.og (ms.take i) t).length<=1000:=fun t=>Nat.le_trans (List.length_filter_le ..) (by rw [List.length_take];omega)
   refine ⟨_,rfl,D,rfl,⟨_,hd⟩,_,rfl,x,rfl,⟨hxx.1,hxx.2⟩,(by show 0<=sizeLine;omega),fun e he=>?_⟩
   have s1:=same_upd (o:=.lst []) he
   have h1:upd G e (.lst []) e=some (.lst []):=upd_same
   have heH:H e=none:=back_none31 sG he
   have heD:e≠D:=fun z=>by rw [z,hd] at he;cases he
   have hd1:=s1 D _ hd
   have hwa1:=hwa.mono s1
   have sG1:=sG.trans s1
   have hev:V.ref e∉kvs.map (·.2):=fun z=>by
    have key:∀ {ts:List (List Nat)} {kvs:List (Key×V)},WaysAt G (Dt.og (ms.take i)) ts kvs->V.ref e∉kvs.map (·.2):=fun {ts kvs} h=>by
     induction h with
     | nil=>intro z;cases z
     | @cons o a' _ _ e1 _ ih =>
      intro z
      rcases List.mem_cons.mp z with z | z
      ·cases z;rw [he] at e1;cases e1
      ·exact ih z
    exact key hwa z
   generalize upd G e (.lst [])=G1 at s1 h1 hd1 hwa1 sG1
   refine ⟨kvs,Sum.inr (tx (beg x)),hd1,rfl,by rw [hwa.len];omega,fun v hv=>?_,fun hn=>?_⟩
   ·have hol:beg x∈ts:=Decidable.byContradiction fun z=>by rw [valV_ways hwa z] at hv;cases hv
    obtain ⟨b,hb1,hb2⟩:=hwa1.get hol
    obtain rfl:v = .ref b:=by rw [hb1] at hv;exact (Option.some.inj hv).symm
    have hbH:=hf b (by
     have vm:∀ {kvs:List (Key×V)} {k:Key} {v:V},valV kvs k=some v->v∈kvs.map (·.2):=fun {kvs k v}=>by
      induction kvs with
      | nil=>intro e;cases e
      | cons kv kvs ih =>
       intro e
       obtain ⟨k',v'⟩:=kv
       by_cases hk:k'=k
       ·rw [valV_pos hk] at e;cases e;exact List.mem_cons_self ..
       ·rw [valV_neg hk] at e;exact List.mem_cons_of_mem _ (ih e)
     exact vm hv)
    have hbD:b≠D:=fun z=>by rw [z,hd1] at hb2;cases hb2
    refine ⟨.inl ⟨rfl,_,SqL.of hb2⟩,_,rfl,b,_,_,rfl,rfl,hb2,(by rw [List.length_map];have:=hgl (beg x);omega),?_⟩
    have hw2:=hwa1.app (x:=x) nd nv hol hb1
    refine ⟨fun b' o e'=>by rw [upd_ne (fun z=>by rw [z,hbH] at e';cases e')];exact sG1 b' o e',kvs,ts,_,by rw [upd_ne hbD.symm];exact hd1,?_,nd,nv,hf,by omega,fun t=>?_,rfl⟩
    ·rw [List.map_append] at hw2
     refine hw2.cong fun t _=>?_
     rw [htk,og_snoc]
     by_cases z:t=beg x
     ·rw [if_pos z,if_pos z,z]
     ·rw [if_neg z,if_neg z]
    ·rw [hm2,hm]
     exact ⟨.inl,fun h=>h.elim id fun z=>z▸(hm _).mp hol⟩
   ·have hol:beg x∉ts:=fun z=>by obtain ⟨a,h1,_⟩:=hwa1.get z;rw [h1] at hn;cases hn
    have hep:upd G1 D (.dK (putK kvs (Sum.inr (tx (beg x))) (.ref e))) e=some (.lst []):=by rw [upd_ne heD];exact h1
    refine ⟨.inl ⟨rfl,_,SqL.of hep⟩,_,rfl,e,_,_,rfl,rfl,hep,(by show 0<sizeLine;omega),?_⟩
    have hpk:putK kvs (Sum.inr (tx (beg x))) (.ref e)=kvs++[(Sum.inr (tx (beg x)),.ref e)]:=by
     unfold putK
     rw [if_neg]
     intro z
     obtain ⟨kv,z1,z2⟩:=List.any_eq_true.mp z
     have h3:kv.1∈kvs.map (·.1):=List.mem_map_of_mem z1
     rw [hwa.keys,of_decide_eq_true z2] at h3
     obtain ⟨t,h4,h5⟩:=List.mem_map.mp h3
     exact hol (tx_inj (Sum.inr.inj h5)▸h4)
    have og0:Dt.og (ms.take i) (beg x)=[]:=List.filter_eq_nil_iff.mpr fun u hu z=>hol ((hm _).mpr ⟨u,hu,of_decide_eq_true z⟩)
    have hne:∀ b' o,H b'=some o->b'≠e∧b'≠D:=fun b' o e'=>⟨fun z=>(by rw [z,heH] at e';cases e'),fun z=>(by rw [z,hD] at e';cases e')⟩
    refine ⟨fun b' o e'=>by rw [upd_ne (hne b' o e').1,upd_ne (hne b' o e').2];exact sG1 b' o e',_,ts++[beg x],_,by rw [upd_ne heD.symm];exact upd_same,?_,?_,?_,?_,by rw [List.length_append];show _+1<=_;omega,fun t=>?_,rfl⟩
    ·have hw2:WaysAt (upd (upd G1 D (.dK (putK kvs (Sum.inr (tx (beg x))) (.ref e)))) e (.lst ([]++[T x]))) (fun t=>if t=beg x then [x] else Dt.og (ms.take i) t) ts kvs:=by
      have hw3:=hwa1.updD (o:=.dK (putK kvs (Sum.inr (tx (beg x))) (.ref e))) hd1
      have key:∀ {G':Hp} {ts:List (List Nat)} {kvs:List (Key×V)},WaysAt G' (Dt.og (ms.take i)) ts kvs->V.ref e∉kvs.map (·.2)->beg x∉ts->WaysAt (upd G' e (.lst ([]++[T x]))) (fun t=>if t=beg x then [x] else Dt.og (ms.take i) t) ts kvs:=fun {G' ts kvs} h=>by
       induction h with
       | nil=>intro _ _;exact .nil
       | @cons o a' _ _ e1 _ ih =>
        intro z1 z2
        have n1:a'≠e:=fun z=>z1 (z▸List.mem_cons_self ..)
        have n2:o≠beg x:=fun z=>z2 (z▸List.mem_cons_self ..)
        exact .cons (by rw [upd_ne n1,if_neg n2];exact e1) (ih (fun z=>z1 (List.mem_cons_of_mem _ z)) fun z=>z2 (List.mem_cons_of_mem _ z))
      exact key hw3 hev hol
     rw [hpk]
     rw [hpk] at hw2
     refine (hw2.snoc (a:=e) (by rw [upd_same,if_pos rfl];rfl)).cong fun t _=>?_
     rw [htk,og_snoc]
     by_cases z:t=beg x
     ·rw [if_pos z,if_pos z,z,og0];rfl
     ·rw [if_neg z,if_neg z]
    ·exact List.nodup_append.mpr ⟨nd,by simp,fun a' ha c hc z=>hol (by rw [<- List.mem_singleton.mp hc,<- z];exact ha)⟩
    ·rw [hpk,List.map_append]
     exact List.nodup_append.mpr ⟨nv,by simp,fun a' ha c hc z=>hev (by have hc:c=V.ref e:=List.mem_singleton.mp hc;rw [<- hc,<- z];exact ha)⟩
    ·intro b hb
     rw [hpk,List.map_append] at hb
     rcases List.mem_append.mp hb with z | z
     ·exact hf b z
     ·have z:V.ref b=V.ref e:=List.mem_singleton.mp z
      cases z
      exact heH
    ·rw [hm2,List.mem_append,hm,List.mem_singleton]
  ·rintro σ G ⟨sG,kvs,ts,v2,hd,hwa,nd,nv,hf,hlt,hm,rfl⟩
   rw [List.length_map,List.take_length] at hwa
   rw [List.length_map,List.take_length] at hm
   exact ⟨_,rfl,q D kvs ts G hD sG hd hwa nd hm⟩
def spProd:Sp:=fun vs H Q _=>∃ (k:Nat),vs=[.int (k:Nat)]∧k<=1000∧Q (.int (Dt.fct k:Nat)) H
theorem ok_product_up_to {f:Addr}{fd:FuncData}(F:Fun K "product_up_to" "product_up_to" s_product_up_to f fd)(tt:Txt K mg ad):FnOk P w K mg base (CX1 P w) 1 f fd ["many"] spProd:=by
 refine F.okN sc_product_up_to (fun vs H Q E h=>?_) (fun cdv A outer s H vs Q E hr h=>?_)
 ·obtain ⟨k,rfl,_⟩:=h
  rfl
 ·obtain ⟨k,rfl,hk,q⟩:=h
  refine ⟨_,(pss_cons (ps_set (i:=1) sc_product_up_to.nd rfl (Or.inl rfl) pe_int)
   (pss_cons (ps_for PassesOwn.never rfl (pi_range2 (by rfl) tt.b_range (pa_cons pe_int (pa_cons (pe_op op_add (pv 0) pe_int) pa_nil))) (pg_name (i:=2) sc_product_up_to.nd rfl (Or.inl rfl)) (pss_one (ps_set (i:=1) sc_product_up_to.nd rfl (Or.inl rfl) (pe_op op_mul (pv 1) (pv 2)))))
   (pss_one (ps_ret (pv 1))))),?_⟩
  (try rw [cxK2]);(try rw [cxK1])
  refine ⟨_,rfl,_,_,rfl,rfl,_,_,rfl,⟨by decide,by decide,by omega,by omega⟩,?_⟩
  rw [show (((k:Nat):Int)+1-1).toNat=k by omega]
  refine for_range (fun j σ G=>G=H∧∃ v2:Option V,σ=[some (.int (k:Nat)),some (.int (Dt.fct j:Nat)),v2]) ⟨rfl,none,rfl⟩ ?_ ?_
  ·rintro j σ G hj ⟨rfl,v2,rfl⟩
   refine ⟨_,rfl,_,rfl,_,_,rfl,rfl,.inr ⟨by omega,by omega⟩,rfl,some (.int (1+(j:Int))),?_⟩
   show [_,some (V.int (((Dt.fct j:Nat):Int)*(1+(j:Int)))),_]=[_,some (V.int (((j+1)*Dt.fct j:Nat):Int)),_]
   rw [show (((j+1)*Dt.fct j:Nat):Int)=((Dt.fct j:Nat):Int)*(1+(j:Int)) by rw [Int.natCast_mul,Int.mul_comm,Int.natCast_add,Int.add_comm];rfl]
  ·rintro σ G ⟨rfl,v2,rfl⟩
   exact ⟨_,rfl,q⟩
theorem WaysAt.drop {H:Hp}{g:List Nat->List (List Nat)}{ts:List (List Nat)}{kvs:List (Key×V)}{o:List Nat}(h:WaysAt H g ts kvs):WaysAt H g (ts.filter fun t=>decide (t≠o)) (dropK kvs (Sum.inr (tx o))):=by
 unfold dropK
 induction h with
 | nil=>exact .nil
 | @cons o' a _ _ e _ ih =>
  by_cases z:o'=o
  ·subst z
   rw [List.filter_cons_of_neg (by simp),List.filter_cons_of_neg (by simp)]
   exact ih
  ·rw [List.filter_cons_of_pos (by simp [z]),List.filter_cons_of_pos (by
    have:(Sum.inr (tx o'):Key)≠Sum.inr (tx o):=fun y=>z (tx_inj (Sum.inr.inj y))
    simp [this])]
   exact .cons e ih
theorem big64 {n:Nat}(h:n<=64 ^ 200):Bg ((n:Nat):Int):=by
 show ((n:Nat):Int).natAbs<2 ^ 8000
 rw [Int.natAbs_natCast]
 exact Nat.lt_of_le_of_lt h (by
  rw [show (64:Nat)=2 ^ 6 from rfl,<- Nat.pow_mul]
  exact Nat.pow_lt_pow_right (by decide) (by decide))
def spWaysOn (K:PySem.W.Frag):Sp:=fun vs H Q _=>∃ (a:Addr) (ms:List (List Nat)) (one other:List Nat),vs=[.ref a,T one,T other]∧SqA K H a (ms.map T)∧(ms.Nodup∧ms.length<=60∧∀ x∈ms,1<=x.length∧x.length<=1000)∧∀ (H':Hp),Same H H'->Q (.int (Dt.eN ms one other:Nat)) H'
theorem ok_ways_on {f:Addr}{fd:FuncData}(F:Fun K "ways_on" "ways_on" s_ways_on f fd)(tt:Txt K mg ad)(C_is_even:Cal P w K mg base (CX1 P w) "is_even" 2 ["words", "one", "other"] (spEven K))(C_by_begin:Cal P w K mg base (CX1 P w) "by_begin" 2 ["words"] (spByB K))(C_product_up_to:Cal P w K mg base (CX1 P w) "product_up_to" 1 ["many"] spProd)(C_choices_counted:Cal P w K mg base (CX1 P w) "choices_counted" 4 ["ways"] (spChoices K)) :
  FnOk P w K mg base (CX1 P w) 5 f fd ["words", "one", "other"] (spWaysOn K):=by
 refine F.okN sc_ways_on (fun vs H Q E h=>?_) (fun cdv A outer s H vs Q E hr h=>?_)
 ·obtain ⟨a,ms,one,other,rfl,_⟩:=h
  rfl
 ·obtain ⟨a,ms,one,other,rfl,hS,⟨hnd,hl,hx⟩,q⟩:=h
  have hs:sizeLine=16777216:=sizeLine_eq
  refine ⟨_,(pss_cons (ps_if (pt_not (pt_val (pe_cal C_is_even hr pass1 (pa_cons (pv 0) (pa_cons (pv 1) (pa_cons (pv 2) pa_nil)))))) (pss_one (ps_ret pe_int)) pss_nil)
   (pss_cons (ps_set (i:=3) sc_ways_on.nd rfl (Or.inl rfl) (pe_cal C_by_begin hr pass1 (pa_cons (pv 0) pa_nil)))
   (pss_cons (ps_wk (t':=(fun D σ H=>∃ (a d:Addr) (one other:List Nat) (ms ts:List (List Nat)) (kvs:List (Key×V)),σ=[some (.ref a),some (T one),some (T other),some (.ref d),none,none]∧H d=some (.dK kvs)∧WaysAt H (Dt.og ms) ts kvs∧(∀ t,t∈ts↔∃ x∈ms,beg x=t)∧ms.length<=60∧∀ (H3:Hp) (k3:List (Key×V)),(∀ b o,b≠d->H b=some o->H3 b=some o)->H3 d=some (.dK k3)->WaysAt H3 (Dt.og ms) (ts.filter fun t=>decide (t≠other)) k3->D.nx [some (.ref a),some (T one),some (T other),some (.ref d),some (.int (Dt.fct (Wd.cnt Wd.beg ms other):Nat)),none] H3)) (ps_set (i:=4) sc_ways_on.nd rfl (Or.inl rfl) (pe_cal C_product_up_to hr pass1 (pa_cons (pe_callB call_len_seq (by rfl) tt.b_len PySem.boot_len (pa_cons (pe_dpop2 (pv 3) (pv 2) (pe_lst pa_nil) ⟨rfl,rfl,rfl,rfl⟩) pa_nil)) pa_nil))) ?rA)
   (pss_cons (ps_for PassesOwn.never rfl (pi_dict (pv 3)) (pg_name (i:=5) sc_ways_on.nd rfl (Or.inl rfl)) (pss_one (ps_set (i:=4) sc_ways_on.nd rfl (Or.inl rfl) (pe_op op_mulB (pv 4) (pe_cal C_product_up_to hr pass1 (pa_cons (pe_op op_sub (pe_callB call_len_seq (by rfl) tt.b_len PySem.boot_len (pa_cons (pe_dget (hu_of hr) (pv 3) (pv 5) (fun _ _=>rfl)) pa_nil)) pe_int) pa_nil))))))
   (pss_one (ps_ret (pe_op op_mulB (pe_thaw (pv 4)) (pe_cal C_choices_counted hr pass1 (pa_cons (pv 3) pa_nil))))))))),?_⟩
  (try rw [cxK2]);(try rw [cxK1])
  case rA =>
   rintro D0 σ G ⟨a,d,one,other,ms,ts,kvs,rfl,hd,hwa,hm,hl,nxt⟩
   have hgl:(Dt.og ms other).length<=60:=Nat.le_trans (List.length_filter_le ..) hl
   refine ⟨_,rfl,d,rfl,.inl ⟨_,.inl hd⟩,_,rfl,(by show 0<=sizeLine;omega),fun e he=>?_⟩
   have s1:=same_upd (o:=.lst []) he
   have h1:upd G e (.lst []) e=some (.lst []):=upd_same
   have hed:e≠d:=fun z=>by rw [z,hd] at he;cases he
   generalize upd G e (.lst [])=G1 at s1 h1
   have hwd:=(hwa.mono s1).drop (o:=other)
   refine ⟨kvs,Sum.inr (tx other),s1 d _ hd,rfl,fun v hv=>?_,fun hn=>?_⟩
   ·have hol:other∈ts:=Decidable.byContradiction fun z=>by rw [valV_ways hwa z] at hv;cases hv
    obtain ⟨b,hb1,hb2⟩:=(hwa.mono s1).get hol
    obtain rfl:v = .ref b:=by rw [hb1] at hv;exact (Option.some.inj hv).symm
    have hbd:b≠d:=fun z=>by rw [z,s1 d _ hd] at hb2;cases hb2
    refine ⟨b,_,rfl,.inl (SqL.of (by rw [upd_ne hbd];exact hb2)),(Dt.og ms other).length,congrArg (fun z=>[V.int z]) (by rw [List.length_map]),by omega,?_⟩
    exact nxt _ _ (fun b' o hb' e'=>by rw [upd_ne hb'];exact s1 b' o e') upd_same (hwd.updD (s1 d _ hd))
   ·have hol:other∉ts:=fun z=>by obtain ⟨b,h1,_⟩:=hwa.get z;rw [h1] at hn;cases hn
    have e0:Dt.og ms other=[]:=List.filter_eq_nil_iff.mpr fun u hu z=>hol ((hm _).mpr ⟨u,hu,of_decide_eq_true z⟩)
    have e1:Wd.cnt Wd.beg ms other=0:=congrArg List.length e0
    refine ⟨e,_,rfl,.inl (SqL.of h1),0,rfl,by omega,?_⟩
    rw [e1] at nxt
    have ef:ts.filter (fun t=>decide (t≠other))=ts:=List.filter_eq_self.mpr fun t ht=>decide_eq_true fun z=>hol (z▸ht)
    exact nxt G1 kvs (fun b' o _ e'=>s1 b' o e') (s1 d _ hd) (by rw [ef];exact hwa.mono s1)
  refine ⟨_,rfl,_,rfl,_,rfl,a,ms,one,other,rfl,hS,⟨hl,hx⟩,fun b H1 s1 hb=>⟨_,rfl,?_⟩⟩
  by_cases hbal:Wd.Bal ms one other
  ·obtain rfl:=hb.mpr hbal
   refine iteF ?_
   refine ⟨_,rfl,a,ms,rfl,hS.on s1,⟨by omega,hx⟩,fun D kvs ts H2 hD s2 hd hwa nd hm=>?_⟩
   have hDH:H D=none:=back_none31 s1 hD
   have hgl:∀ t,(Dt.og ms t).length<=60:=fun t=>Nat.le_trans (List.length_filter_le ..) hl
   have htl:ts.length<=60:=by
    have z:ts.length<=(ms.map beg).length:=nd.length_le_of_subset fun z hz=>by
     obtain ⟨w,hw,h⟩:=(hm z).mp hz
     exact h▸List.mem_map_of_mem hw
    rw [List.length_map] at z
    omega
   refine ⟨a,D,one,other,ms,ts,kvs,rfl,hd,hwa,hm,hl,fun H3 k3 k23 hd3 hwa3=>?_⟩
   have s3:Same H H3:=fun b o e=>k23 b o (ne_of_none e hDH) (s2 b o (s1 b o e))
   obtain ⟨us,hus⟩:∃ us,us=ts.filter fun t=>decide (t≠other):=⟨_,rfl⟩
   rw [<- hus] at hwa3
   have ndu:us.Nodup:=hus▸nd.sublist List.filter_sublist
   have hul:us.length<=60:=Nat.le_trans (hus▸List.length_filter_le ..) htl
   have hum:∀ t,t∈us↔t≠other∧∃ x∈ms,beg x=t:=fun t=>by rw [hus,List.mem_filter,hm,decide_eq_true_iff];exact ⟨fun h=>⟨h.2,h.1⟩,fun h=>⟨h.2,h.1⟩⟩
   have hcb:Dt.fct (Wd.cnt Wd.beg ms other)<=64 ^ 60:=Nat.le_trans (Dt.fct_le (Nat.le_trans (hgl other) (by decide))) (Nat.pow_le_pow_right (by decide) (hgl other))
   have hpb:∀ l:List (List Nat),l.Nodup->Dt.pF (Wd.cnt Wd.beg ms) l<=64 ^ 60:=fun l hl'=>Nat.le_trans (Dt.pF_le fun t _=>Nat.le_trans (hgl t) (by decide)) (Nat.pow_le_pow_right (by decide) (Nat.le_trans (Dt.cnt_sum hl') hl))
   have hob:∀ l:List (List Nat),l.Nodup->Bg ((Dt.fct (Wd.cnt Wd.beg ms other)*Dt.pF (Wd.cnt Wd.beg ms) l:Nat):Int):=fun l hl'=>big64 (Nat.le_trans (Nat.mul_le_mul hcb (hpb l hl')) (by rw [<- Nat.pow_add];exact Nat.pow_le_pow_right (by decide) (by decide)))
   have hklen:=hwa3.len
   refine ⟨_,rfl,D,k3,rfl,hd3,fun o=>?_⟩
   have hfr:upd H3 D (.frz o (.dK k3)) D=some (.frz o (.dK k3)):=upd_same
   have hwf:WaysAt (upd H3 D (.frz o (.dK k3))) (Dt.og ms) us k3:=hwa3.updD hd3
   refine for_dict (fun i σ G=>G=upd H3 D (.frz o (.dK k3))∧∃ v5:Option V,σ=[some (.ref a),some (T one),some (T other),some (.ref D),some (.int (Dt.fct (Wd.cnt Wd.beg ms other)*Dt.pF (Wd.cnt Wd.beg ms) (us.take i):Nat)),v5]) ⟨rfl,none,by rw [List.take_zero];show _=[_,_,_,_,some (V.int ((Dt.fct (Wd.cnt Wd.beg ms other)*1:Nat):Int)),_];rw [Nat.mul_one]⟩ (fun i σ G _ h=>by rw [h.1];exact hfr) ?_ ?_
   ·rintro i kv σ G hi ⟨rfl,v5,rfl⟩
    have hik:(k3.map (·.1))[i]?=some kv.1:=by rw [List.getElem?_map,hi];rfl
    rw [hwa3.keys,List.getElem?_map] at hik
    obtain ⟨t,hti,hkt⟩:=Option.map_eq_some_iff.mp hik
    rw [show kV kv.1=T t by rw [<- hkt];rfl]
    have htk:us.take (i+1)=us.take i++[t]:=by rw [List.take_add_one,hti];rfl
    have htu:=List.mem_of_getElem? hti
    obtain ⟨b,hb1,hb2⟩:=hwf.get htu
    have hpos:0<(Dt.og ms t).length:=by
     obtain ⟨_,x,h1,h2⟩:=(hum t).mp htu
     exact List.length_pos_of_mem (Dt.mem_og.mpr ⟨h1,h2⟩)
    have hgt:=hgl t
    refine ⟨_,rfl,_,rfl,_,rfl,D,_,rfl,.inl ⟨k3,Sum.inr (tx t),.inr ⟨o,hfr⟩,rfl,hb1.symm⟩,b,_,rfl,.inl (SqL.of hb2),_,_,rfl,rfl,(Dt.og ms t).length-1,congrArg (fun z=>[V.int z]) (by rw [List.length_map];omega),by omega,_,_,rfl,rfl,⟨hob _ (ndu.sublist (List.take_sublist i us)),big64 (Nat.le_trans (Dt.fct_le (by omega)) (Nat.pow_le_pow_right (by decide) (by omega)))⟩,?_⟩
    refine ⟨rfl,some (T t),?_⟩
    rw [htk,Dt.pF_snoc,<- Nat.mul_assoc,Int.natCast_mul]
    rfl
   ·rintro σ G ⟨rfl,v5,rfl⟩
    rw [hklen,List.take_length]
    refine ⟨_,rfl,D,o,k3,hfr,hDH,?_⟩
    have back:upd (upd H3 D (.frz o (.dK k3))) D (.dK k3)=H3:=by
     rw [upd_upd]
     funext b
     by_cases hb:b=D
     ·subst hb
      rw [upd_same,hd3]
     ·rw [upd_ne hb]
    rw [back]
    obtain ⟨hsq,hpl⟩:=chMat_ok (ls:=us) (g:=Dt.og ms) (by omega) fun t _=>Nat.le_trans (hgl t) (by decide)
    refine ⟨_,rfl,D,us,k3,Dt.og ms,rfl,hd3,hwa3,⟨by omega,fun t _=>⟨Nat.le_trans (hgl t) (by decide),fun y hy=>hx y (List.mem_filter.mp hy).1⟩⟩,hsq,hpl,fun H4 s4=>?_⟩
    rw [det_ch ndu]
    have hcn:Dt.nC us (Dt.og ms)<=64 ^ 60:=Nat.le_trans Dt.nC_le (Nat.le_trans (Nat.pow_le_pow_right (by decide) (Nat.le_trans (Dt.cnt_sum ndu) hl)) (Nat.pow_le_pow_left (by decide) 60))
    refine ⟨_,_,rfl,rfl,⟨hob us ndu,big64 (Nat.le_trans hcn (Nat.pow_le_pow_right (by decide) (by decide)))⟩,?_⟩
    have e:=Dt.best ms.length rfl hnd hbal (ts:=us) ⟨ndu,hum⟩
    have z:=q H4 (s3.trans s4)
    rw [e] at z
    unfold Dt.bst at z
    rw [Int.natCast_mul] at z
    exact z
  ·cases b with
   | true=>exact absurd (hb.mp rfl) hbal
   | false =>
    refine iteT ?_
    have:=q H1 s1
    rw [Dt.eN_uneven hnd hbal] at this
    exact this
def spWithout (K:PySem.W.Frag):Sp:=fun vs H Q _=>∃ (a:Addr) (ls:List (List Nat)) (w:List Nat),vs=[.ref a,T w]∧SqL K H a (ls.map T)∧ls.length<=1000∧∀ (D:Addr) (H':Hp),H D=none->Same H H'->H' D=some (.lst ((Dt.rm ls w).map T))->Q (.ref D) H'
theorem ok_without {f:Addr}{fd:FuncData}(F:Fun K "without" "without" s_without f fd)(tt:Txt K mg ad):FnOk P w K mg base (CX1 P w) 1 f fd ["words", "word"] (spWithout K):=by
 refine F.okN sc_without (fun vs H Q E h=>?_) (fun cdv A outer s H vs Q E hr h=>?_)
 ·obtain ⟨a,ls,wd,rfl,_⟩:=h
  rfl
 ·obtain ⟨a,ls,wd,rfl,hS,hl,q⟩:=h
  have hs:sizeLine=16777216:=sizeLine_eq
  refine ⟨_,(pss_one (ps_ret (pe_compf cs_without_0 rfl (pi_list (pv 0)) (fun cl C s' H' fp=>(pt_cmpR op_ne_T (pv 0) (pv 2) (nomark _))) (fun cl C s' H' fp=>(pv 0))))),?_⟩
  (try rw [cxK2]);(try rw [cxK1])
  refine ⟨_,rfl,a,rfl,⟨_,hS⟩,?_⟩
  refine compFG (fun v=>!decide (unT v=wd)) (fun v=>v) (reads_list hS) (by rw [List.length_map];omega) (fun v G5 hv s5 N hN=>?_) (fun v G5 hv hp s5 N hN=>?_) fun D5 G5 hD5 s5 hd5=>?_
  ·obtain ⟨l,hl,rfl⟩:=List.mem_map.mp hv
   have z:=hN G5 (Same.refl _)
   rw [unT_T] at z
   exact ⟨_,rfl,_,rfl,_,rfl,_,rfl,_,rfl,z⟩
  ·exact ⟨_,rfl,hN G5 (Same.refl _)⟩
  ·refine q D5 G5 hD5 s5 ?_
   rw [hd5,show (ls.map T).filter (fun v=>!decide (unT v=wd))=(ls.filter fun o=>!decide (o=wd)).map T from filter_unT (p:=fun o=>!decide (o=wd)) ls,List.map_id']
   rfl
theorem at_last {w:List Nat}(h:1<=w.length):atI w (-1)=some (Wd.lastL w):=by
 show (ixN w.length (-1)).bind _=_
 unfold ixN
 rw [if_neg (by decide),if_pos (by omega),show ((-1:Int)+((w.length:Nat):Int)).toNat=w.length-1 by omega]
 show w[w.length-1]?=_
 unfold Wd.lastL
 rw [List.getD_eq_getElem?_getD,List.getElem?_eq_getElem (by omega)]
 rfl
def spWayBy (K:PySem.W.Frag):Sp:=fun vs H Q _=>∃ (a:Addr) (ms us:List (List Nat)) (one other:List Nat) (k:Nat),vs=[.ref a,T one,T other,.int (k:Nat)]∧SqA K H a (ms.map T)∧(ms.Nodup∧ms.length<=60∧one.length<=1000∧∀ x∈ms,1<=x.length∧x.length<=1000)∧(Dt.ordN ms.length ms one other)[k]?=some us∧∀ (H':Hp),Same H H'->Q (T (one++us.map Wd.lastL)) H'
theorem ok_way_by {f:Addr}{fd:FuncData}(F:Fun K "way_by" "way_by" s_way_by f fd)(tt:Txt K mg ad)(C_by_begin:Cal P w K mg base (CX1 P w) "by_begin" 2 ["words"] (spByB K))(C_ways_on:Cal P w K mg base (CX1 P w) "ways_on" 5 ["words", "one", "other"] (spWaysOn K))(C_without:Cal P w K mg base (CX1 P w) "without" 1 ["words", "word"] (spWithout K))(C_end_of:Cal P w K mg base (CX1 P w) "end_of" 1 ["word"] spEnd) :
  FnOk P w K mg base (CX1 P w) 6 f fd ["words", "one", "other", "number"] (spWayBy K):=by
 refine F.okN sc_way_by (fun vs H Q E h=>?_) (fun cdv A outer s H vs Q E hr h=>?_)
 ·obtain ⟨a,ms,us,one,other,k,rfl,_⟩:=h
  rfl
 ·obtain ⟨a,ms,us,one,other,k,rfl,hS,⟨hnd,hl,hol,hx⟩,hus,q⟩:=h
  have hs:sizeLine=16777216:=sizeLine_eq
  have hu:=Nat.lt_of_succ_lt (hu_of hr)
  have husl:us.length=ms.length:=(Dt.ord_of hnd hus).1.length_eq
  refine ⟨_,(pss_cons (ps_set (i:=4) sc_way_by.nd rfl (Or.inl rfl) (pv 1))
   (pss_cons (ps_set (i:=5) sc_way_by.nd rfl (Or.inl rfl) (pv 1))
   (pss_cons (ps_set (i:=6) sc_way_by.nd rfl (Or.inl rfl) (pe_callTy call_list_of (by rfl) tt.b_list (by decide +kernel) (pa_cons (pv 0) pa_nil)))
   (pss_cons (ps_set (i:=7) sc_way_by.nd rfl (Or.inl rfl) (pv 3))
   (pss_cons (ps_while PassesOwn.never (pt_cmpR (op_ne_L0 K rfl hu) (pv 6) (pe_lst pa_nil) (nomark _)) (pss_cons (ps_for PassesOwn.never rfl (pi_list (pe_dget (hu_of hr) (pe_cal C_by_begin hr pass1 (pa_cons (pv 6) pa_nil)) (pv 5) (fun _ _=>rfl))) (pg_name (i:=8) sc_way_by.nd rfl (Or.inl rfl)) (pss_cons (ps_set (i:=9) sc_way_by.nd rfl (Or.inl rfl) (pe_cal C_ways_on hr pass1 (pa_cons (pe_cal C_without hr pass1 (pa_cons (pv 6) (pa_cons (pv 8) pa_nil))) (pa_cons (pe_cal C_end_of hr pass1 (pa_cons (pv 8) pa_nil)) (pa_cons (pv 2) pa_nil)))))
   (pss_cons (ps_if (pt_cmpR op_lt (pv 7) (pv 9) (nomark _)) (pss_one ps_break) pss_nil)
   (pss_one (ps_set (i:=7) sc_way_by.nd rfl (Or.inl rfl) (pe_op op_sub (pv 7) (pv 9)))))))
   (pss_cons (ps_set (i:=4) sc_way_by.nd rfl (Or.inl rfl) (pe_op op_add_T (pv 4) (pe_ix ix_T (pv 8) (pe_un un_neg pe_int) (fun _ _=>rfl))))
   (pss_cons (ps_set (i:=5) sc_way_by.nd rfl (Or.inl rfl) (pe_cal C_end_of hr pass1 (pa_cons (pv 8) pa_nil)))
   (pss_one (ps_set (i:=6) sc_way_by.nd rfl (Or.inl rfl) (pe_cal C_without hr pass1 (pa_cons (pv 6) (pa_cons (pv 8) pa_nil)))))))))
   (pss_one (ps_ret (pv 4)))))))),?_⟩
  (try rw [cxK2]);(try rw [cxK1])
  refine ⟨_,rfl,?_⟩
  refine ⟨_,rfl,?_⟩
  refine ⟨_,rfl,a,_,rfl,hS,fun L0 hL0=>?_⟩
  have t0:=same_upd (o:=.lst (ms.map T)) hL0
  refine ⟨_,rfl,?_⟩
  refine ⟨fun m σ G=>∃ (Lf:Addr) (lf gs rs:List (List Nat)) (at':List Nat) (j:Nat) (v8 v9:Option V),m=lf.length∧Same H G∧G Lf=some (.lst (lf.map T))∧(∀ y∈lf,y∈ms)∧lf.length<=60∧lf.Nodup∧(Dt.ordN lf.length lf at' other)[j]?=some rs∧gs++rs=us∧σ=[some (.ref a),some (T one),some (T other),some (.int (k:Nat)),some (T (one++gs.map Wd.lastL)),some (T at'),some (.ref Lf),some (.int (j:Nat)),v8,v9],
   ⟨_,L0,ms,[],us,one,k,none,none,rfl,t0,upd_same,fun y hy=>hy,hl,hnd,hus,rfl,by rw [List.map_nil,List.append_nil];rfl⟩,?_⟩
  rintro m σ G ⟨Lf,lf,gs,rs,at',j,v8,v9,hm,sG,hL,hsub,hll,hlnd,hrs,hgr,rfl⟩
  refine ⟨_,rfl,(by show 0<=sizeLine;omega),fun E0 hE0=>?_⟩
  have tE:=same_upd (o:=.lst []) hE0
  refine ⟨Lf,E0,_,rfl,rfl,SqL.of (tE Lf _ hL),SqL.of upd_same,_,rfl,?_⟩
  by_cases hle:lf=[]
  ·subst hle
   refine iteF ?_
   refine ⟨_,rfl,?_⟩
   have h1:rs=[]:=by
    have:=(Dt.ord_of hlnd hrs).1
    exact List.perm_nil.mp this
   rw [h1,List.append_nil] at hgr
   rw [hgr]
   exact q _ (sG.trans tE)
  ·refine itP (by cases lf with | nil=>exact absurd rfl hle | cons y r=>rfl) ?_
   refine ⟨_,fun σ' H' z=>z,?_⟩
   obtain ⟨n,hn⟩:∃ n,lf.length=n+1:=⟨lf.length-1,by have:=List.length_pos_iff.mpr hle;omega⟩
   have hlx:∀ y∈lf,1<=y.length∧y.length<=1000:=fun y hy=>hx y (hsub y hy)
   have hgl:gs.length<=60:=by
    have:=congrArg List.length hgr
    rw [List.length_append] at this
    omega
   refine ⟨_,rfl,Lf,lf,rfl,.inl (SqL.of (tE Lf _ hL)),⟨by omega,hlx⟩,fun D kvs ts G1 hD s1 hd hwa nd hmt=>?_⟩
   have hat:at'∈ts:=by
    obtain ⟨h1,h2⟩:=Dt.ord_of hlnd hrs
    cases rs with
    | nil=>have:=h1.length_eq;rw [hn] at this;cases this
    | cons w r=>exact (hmt _).mpr ⟨w,h1.mem_iff.mp (List.mem_cons_self ..),h2.1⟩
   obtain ⟨b,hb1,hb2⟩:=hwa.get hat
   have sG1:=sG.trans (tE.trans s1)
   have hL1:=s1 Lf _ (tE Lf _ hL)
   refine ⟨_,rfl,D,_,rfl,(by have z:=DGet.k (k:=Sum.inr (tx at')) hd;rw [hb1] at z;exact z),b,rfl,⟨_,SqL.of hb2⟩,?_⟩
   refine for_list (K:=K) (a:=b) (xs:=(Dt.og lf at').map T) (fun i σ G'=>Same G1 G'∧∃ (j':Nat) (v8 v9:Option V),(((Dt.og lf at').drop i).flatMap fun w=>(Dt.ordN n (Dt.rm lf w) (Wd.fin w) other).map fun us=>w::us)[j']?=some rs∧σ=[some (.ref a),some (T one),some (T other),some (.int (k:Nat)),some (T (one++gs.map Wd.lastL)),some (T at'),some (.ref Lf),some (.int (j':Nat)),v8,v9])
    ⟨Same.refl _,j,v8,v9,by rw [List.drop_zero];rw [hn] at hrs;exact hrs,rfl⟩ (fun i σ G' _ h=>SqL.of (h.1 b _ hb2)) ?_ ?_
   ·rintro i y σ G' hi ⟨sG',j',v8,v9,hj',rfl⟩
    obtain ⟨wd,hwi,rfl⟩:∃ wd,(Dt.og lf at')[i]?=some wd∧T wd=y:=by rw [List.getElem?_map] at hi;exact Option.map_eq_some_iff.mp hi
    obtain ⟨hwl,hwb⟩:=Dt.mem_og.mp (List.mem_of_getElem? hwi)
    have hwx:=hlx wd hwl
    have hrl:(Dt.rm lf wd).length=n:=by have:=Dt.rm_len hlnd hwl;omega
    have hdr:(Dt.og lf at').drop i=wd::(Dt.og lf at').drop (i+1):=by
     obtain ⟨hi1,hi2⟩:=List.getElem?_eq_some_iff.mp hwi
     rw [List.drop_eq_getElem_cons hi1,hi2]
    rw [hdr,Dt.fm_get] at hj'
    have hel:((Dt.ordN n (Dt.rm lf wd) (Wd.fin wd) other).map fun us=>wd::us).length=Dt.eN (Dt.rm lf wd) (Wd.fin wd) other:=by rw [List.length_map];unfold Dt.eN;rw [hrl]
    rw [hel] at hj'
    refine ⟨_,rfl,_,rfl,Lf,lf,wd,rfl,SqL.of (sG' Lf _ hL1),by omega,fun D2 G2 hD2 s2 hd2=>?_⟩
    refine ⟨_,rfl,wd,rfl,⟨hwx.1,hwx.2⟩,_,rfl,D2,Dt.rm lf wd,Wd.fin wd,other,rfl,.inl (SqL.of hd2),⟨Dt.rm_nd hlnd,by omega,fun y hy=>hlx y (Dt.mem_rm.mp hy).1⟩,fun G3 s3=>?_⟩
    have t3:=s2.trans s3
    refine ⟨_,rfl,_,rfl,_,_,rfl,rfl,_,rfl,?_⟩
    by_cases hlt:j'<Dt.eN (Dt.rm lf wd) (Wd.fin wd) other
    ·refine itP (decide_eq_true (by omega)) ?_
     rw [if_pos hlt,List.getElem?_map] at hj'
     obtain ⟨rs',hrs',hrr⟩:=Option.map_eq_some_iff.mp hj'
     have hL3:=t3 Lf _ (sG' Lf _ hL1)
     refine ⟨_,rfl,_,rfl,_,rfl,_,rfl,_,rfl,(by omega),_,at_last (by omega),_,rfl,_,rfl,(by rw [List.length_append,List.length_map];show _+_+1<=sizeLine;omega),?_⟩
     refine ⟨_,rfl,wd,rfl,⟨by omega,by omega⟩,?_⟩
     refine ⟨_,rfl,_,rfl,Lf,lf,wd,rfl,SqL.of hL3,by omega,fun D4 G4 hD4 s4 hd4=>?_⟩
     refine ⟨(Dt.rm lf wd).length,by omega,D4,Dt.rm lf wd,gs++[wd],rs',Wd.fin wd,j',some (T wd),some (.int ((Dt.eN (Dt.rm lf wd) (Wd.fin wd) other:Nat):Int)),rfl,sG1.trans (sG'.trans (t3.trans s4)),hd4,fun y hy=>hsub y (Dt.mem_rm.mp hy).1,by omega,Dt.rm_nd hlnd,by rw [hrl];exact hrs',?_,?_⟩
     ·rw [List.append_assoc]
      show gs++(wd::rs')=us
      rw [hrr]
      exact hgr
     ·rw [List.map_append,<- List.append_assoc]
      rfl
    ·refine itN (fun z=>hlt (by have:=of_decide_eq_true z;omega)) ?_
     rw [if_neg hlt] at hj'
     refine ⟨_,rfl,_,rfl,_,_,rfl,rfl,?_⟩
     refine ⟨sG'.trans t3,j'-Dt.eN (Dt.rm lf wd) (Wd.fin wd) other,some (T wd),some (.int ((Dt.eN (Dt.rm lf wd) (Wd.fin wd) other:Nat):Int)),hj',?_⟩
     rw [show ((j'-Dt.eN (Dt.rm lf wd) (Wd.fin wd) other:Nat):Int)=((j':Nat):Int)-((Dt.eN (Dt.rm lf wd) (Wd.fin wd) other:Nat):Int) by omega]
     rfl
   ·rintro σ G' ⟨sG',j',v8,v9,hj',rfl⟩
    rw [List.length_map,List.drop_length] at hj'
    cases hj'
def spWayNum (K:PySem.W.Frag):Sp:=fun vs H Q _=>∃ (a b:Addr) (ms us:List (List Nat)) (other:List Nat),vs=[.ref a,.ref b,T other]∧SqA K H a (ms.map T)∧SqL K H b (us.map T)∧(ms.Nodup∧ms.length<=60∧∀ x∈ms,1<=x.length∧x.length<=1000)∧us.Perm ms∧∀ (H':Hp),Same H H'->Q (.int (Dt.rk other ms us:Nat)) H'
theorem ok_way_number {f:Addr}{fd:FuncData}(F:Fun K "way_number" "way_number" s_way_number f fd)(tt:Txt K mg ad)(C_by_begin:Cal P w K mg base (CX1 P w) "by_begin" 2 ["words"] (spByB K))(C_begin_of:Cal P w K mg base (CX1 P w) "begin_of" 1 ["word"] spBegin)(C_ways_on:Cal P w K mg base (CX1 P w) "ways_on" 5 ["words", "one", "other"] (spWaysOn K))(C_without:Cal P w K mg base (CX1 P w) "without" 1 ["words", "word"] (spWithout K))(C_end_of:Cal P w K mg base (CX1 P w) "end_of" 1 ["word"] spEnd) :
  FnOk P w K mg base (CX1 P w) 6 f fd ["words", "order", "other"] (spWayNum K):=by
 refine F.okN sc_way_number (fun vs H Q E h=>?_) (fun cdv A outer s H vs Q E hr h=>?_)
 ·obtain ⟨a,b,ms,us,other,rfl,_⟩:=h
  rfl
 ·obtain ⟨a,b,ms,us,other,rfl,hS,hB,⟨hnd,hl,hx⟩,hp,q⟩:=h
  have hs:sizeLine=16777216:=sizeLine_eq
  have husl:us.length=ms.length:=hp.length_eq
  refine ⟨_,(pss_cons (ps_set (i:=3) sc_way_number.nd rfl (Or.inl rfl) pe_int)
   (pss_cons (ps_set (i:=4) sc_way_number.nd rfl (Or.inl rfl) (pe_callTy call_list_of (by rfl) tt.b_list (by decide +kernel) (pa_cons (pv 0) pa_nil)))
   (pss_cons (ps_for PassesOwn.never rfl (pi_list (pv 1)) (pg_name (i:=5) sc_way_number.nd rfl (Or.inl rfl)) (pss_cons (ps_for PassesOwn.never rfl (pi_list (pe_dget (hu_of hr) (pe_cal C_by_begin hr pass1 (pa_cons (pv 4) pa_nil)) (pe_cal C_begin_of hr pass1 (pa_cons (pv 5) pa_nil)) (fun _ _=>rfl))) (pg_name (i:=6) sc_way_number.nd rfl (Or.inl rfl)) (pss_one (ps_if (pt_cmpR op_lt_T (pv 6) (pv 5) (nomark _)) (pss_one (ps_set (i:=3) sc_way_number.nd rfl (Or.inl rfl) (pe_op op_add (pv 3) (pe_cal C_ways_on hr pass1 (pa_cons (pe_cal C_without hr pass1 (pa_cons (pv 4) (pa_cons (pv 6) pa_nil))) (pa_cons (pe_cal C_end_of hr pass1 (pa_cons (pv 6) pa_nil)) (pa_cons (pv 2) pa_nil))))))) pss_nil)))
   (pss_one (ps_set (i:=4) sc_way_number.nd rfl (Or.inl rfl) (pe_cal C_without hr pass1 (pa_cons (pv 4) (pa_cons (pv 5) pa_nil)))))))
   (pss_one (ps_ret (pv 3)))))),?_⟩
  (try rw [cxK2]);(try rw [cxK1])
  refine ⟨_,rfl,a,_,rfl,hS,fun L0 hL0=>?_⟩
  have t0:=same_upd (o:=.lst (ms.map T)) hL0
  refine ⟨_,rfl,b,rfl,⟨_,t0.seq hB⟩,?_⟩
  refine for_list (K:=K) (a:=b) (xs:=us.map T) (fun i σ G=>Same H G∧∃ (Lf:Addr) (lf:List (List Nat)) (acc:Nat) (v5 v6:Option V),G Lf=some (.lst (lf.map T))∧lf.Nodup∧(us.drop i).Perm lf∧(∀ y∈lf,y∈ms)∧lf.length<=60∧acc+Dt.rk other lf (us.drop i)=Dt.rk other ms us∧σ=[some (.ref a),some (.ref b),some (T other),some (.int (acc:Nat)),some (.ref Lf),v5,v6])
   ⟨t0,L0,ms,0,none,none,upd_same,hnd,by rw [List.drop_zero];exact hp,fun y hy=>hy,hl,by rw [List.drop_zero,Nat.zero_add],rfl⟩ (fun i σ G _ h=>h.1.seq hB) ?_ ?_
  ·rintro i y σ G hi ⟨sG,Lf,lf,acc,v5,v6,hL,hlnd,hpl,hsub,hll,hacc,rfl⟩
   obtain ⟨wd,hwi,rfl⟩:∃ wd,us[i]?=some wd∧T wd=y:=by rw [List.getElem?_map] at hi;exact Option.map_eq_some_iff.mp hi
   have hdr:us.drop i=wd::us.drop (i+1):=by
    obtain ⟨hi1,hi2⟩:=List.getElem?_eq_some_iff.mp hwi
    rw [List.drop_eq_getElem_cons hi1,hi2]
   rw [hdr] at hpl hacc
   have hwl:wd∈lf:=hpl.mem_iff.mp (List.mem_cons_self ..)
   have hlx:∀ y∈lf,1<=y.length∧y.length<=1000:=fun y hy=>hx y (hsub y hy)
   have hwx:=hlx wd hwl
   refine ⟨_,rfl,Lf,lf,rfl,.inl (SqL.of hL),⟨by omega,hlx⟩,fun D kvs ts G1 hD s1 hd hwa nd hmt=>?_⟩
   have hat:Wd.beg wd∈ts:=(hmt _).mpr ⟨wd,hwl,rfl⟩
   obtain ⟨c,hb1,hb2⟩:=hwa.get hat
   have hL1:=s1 Lf _ hL
   refine ⟨_,rfl,wd,rfl,⟨hwx.1,hwx.2⟩,D,_,rfl,(by have z:=DGet.k (k:=Sum.inr (tx (Wd.beg wd))) hd;rw [hb1] at z;exact z),c,rfl,⟨_,SqL.of hb2⟩,?_⟩
   have hstep:∀ (l:List (List Nat)) (x:List Nat),((((l++[x]).filter fun x=>decide (x<wd)).map fun x=>Dt.eN (Dt.rm lf x) (Wd.fin x) other).sum:Nat)=((l.filter fun x=>decide (x<wd)).map fun x=>Dt.eN (Dt.rm lf x) (Wd.fin x) other).sum+if x<wd then Dt.eN (Dt.rm lf x) (Wd.fin x) other else 0:=fun l x=>by
    rw [List.filter_append]
    by_cases h:x<wd
    ·rw [if_pos h,List.filter_cons_of_pos (p:=fun x=>decide (x<wd)) (decide_eq_true h),List.filter_nil,List.map_append,List.sum_append]
     show _+(Dt.eN (Dt.rm lf x) (Wd.fin x) other+0)=_
     omega
    ·rw [if_neg h,List.filter_cons_of_neg (p:=fun x=>decide (x<wd)) (fun z=>h (of_decide_eq_true z)),List.filter_nil,List.append_nil,Nat.add_zero]
   refine for_list (K:=K) (a:=c) (xs:=(Dt.og lf (Wd.beg wd)).map T) (fun j σ G'=>Same G1 G'∧∃ (v6:Option V),σ=[some (.ref a),some (.ref b),some (T other),some (.int ((acc+((((Dt.og lf (Wd.beg wd)).take j).filter fun x=>decide (x<wd)).map fun x=>Dt.eN (Dt.rm lf x) (Wd.fin x) other).sum:Nat):Int)),some (.ref Lf),some (T wd),v6])
    ⟨Same.refl _,v6,rfl⟩ (fun j σ G' _ h=>SqL.of (h.1 c _ hb2)) ?_ ?_
   ·rintro j y σ G' hj ⟨sG',v6,rfl⟩
    obtain ⟨x,hxj,rfl⟩:∃ x,(Dt.og lf (Wd.beg wd))[j]?=some x∧T x=y:=by rw [List.getElem?_map] at hj;exact Option.map_eq_some_iff.mp hj
    obtain ⟨hxl,hxb⟩:=Dt.mem_og.mp (List.mem_of_getElem? hxj)
    have hxx:=hlx x hxl
    have htk:(Dt.og lf (Wd.beg wd)).take (j+1)=(Dt.og lf (Wd.beg wd)).take j++[x]:=by rw [List.take_add_one,hxj];rfl
    refine ⟨_,rfl,_,rfl,_,rfl,_,rfl,_,rfl,?_⟩
    by_cases hlt:x<wd
    ·refine itP (decide_eq_true hlt) ?_
     refine ⟨_,rfl,_,rfl,_,rfl,Lf,lf,x,rfl,SqL.of (sG' Lf _ hL1),by omega,fun D2 G2 hD2 s2 hd2=>?_⟩
     have hrl:=Dt.rm_len hlnd hxl
     refine ⟨_,rfl,x,rfl,⟨hxx.1,hxx.2⟩,_,rfl,D2,Dt.rm lf x,Wd.fin x,other,rfl,.inl (SqL.of hd2),⟨Dt.rm_nd hlnd,by omega,fun y hy=>hlx y (Dt.mem_rm.mp hy).1⟩,fun G3 s3=>?_⟩
     refine ⟨_,_,rfl,rfl,sG'.trans (s2.trans s3),some (T x),?_⟩
     rw [htk,hstep,if_pos hlt,<- Nat.add_assoc,Int.natCast_add (acc+_)]
     rfl
    ·refine itN (fun z=>hlt (of_decide_eq_true z)) ?_
     refine ⟨sG',some (T x),?_⟩
     rw [htk,hstep,if_neg hlt,Nat.add_zero]
     rfl
   ·rintro σ G' ⟨sG',v6,rfl⟩
    rw [List.length_map,List.take_length]
    refine ⟨_,rfl,_,rfl,Lf,lf,wd,rfl,SqL.of (sG' Lf _ hL1),by omega,fun D4 G4 hD4 s4 hd4=>?_⟩
    have hrl:=Dt.rm_len hlnd hwl
    refine ⟨sG.trans (s1.trans (sG'.trans s4)),D4,Dt.rm lf wd,_,_,_,hd4,Dt.rm_nd hlnd,(hpl.trans (Dt.rm_perm hlnd hwl)).cons_inv,fun y hy=>hsub y (Dt.mem_rm.mp hy).1,by omega,?_,rfl⟩
    rw [<- hacc]
    exact Nat.add_assoc _ _ _
  ·rintro σ G ⟨sG,Lf,lf,acc,v5,v6,hL,hlnd,hpl,hsub,hll,hacc,rfl⟩
   rw [List.length_map,List.drop_length] at hacc
   have e:acc=Dt.rk other ms us:=by
    rw [<- hacc]
    show acc=acc+0
    omega
   rw [e]
   exact ⟨_,rfl,q G sG⟩
theorem drop_rm {ms:List (List Nat)}{m0:List Nat}(hnd:ms.Nodup)(h:ms[0]?=some m0):ms=m0::ms.drop 1∧ms.drop 1=Dt.rm ms m0:=by
 cases ms with
 | nil=>cases h
 | cons x r =>
  have e:x=m0:=by simpa using h
  subst e
  refine ⟨rfl,?_⟩
  rw [List.nodup_cons] at hnd
  show r=((x::r).filter fun y=>!decide (y=x))
  rw [List.filter_cons_of_neg (by simp),List.filter_eq_self.mpr fun y hy=>by have:y≠x:=fun z=>hnd.1 (z▸hy);simp [this]]
theorem cutT_from {ls:List (List Nat)}{k:Nat}(h:k<=ls.length):cutV (ls.map T) (some (k:Int)) none=(ls.drop k).map T:=by
 unfold cutV
 rw [HT.sIx_nat,HT.sIx_none,List.length_map,Nat.min_eq_left h,<- List.map_drop,<- List.map_take,List.take_of_length_le (by rw [List.length_drop];omega)]
theorem not_all {ls:List (List Nat)}(h:0<ls.length):¬ (HT.sIx (ls.map T).length 0 (some (1:Int))=0∧HT.sIx (ls.map T).length (ls.map T).length none=(ls.map T).length):=fun z=>by
 have z1:=z.1
 rw [show HT.sIx (ls.map T).length 0 (some (1:Int))=min 1 (ls.map T).length from HT.sIx_nat _ _ 1,List.length_map] at z1
 omega
def spRingC (C:Addr):Sp:=fun vs H Q _=>∃ (x tp:Addr) (n:Nat) (ms:List (List Nat)) (m0:List Nat),vs=[.ref x]∧WebAt C H x tp n ms∧WebOk ms n∧ms[0]?=some m0∧∀ (H':Hp),Same H H'->Q (.int (Dt.eN (Dt.rm ms m0) (Wd.fin m0) (Wd.beg m0):Nat)) H'
theorem ok_ring_count {f:Addr}{fd:FuncData}(F:Fun K "ring_count" "ring_count" s_ring_count f fd)(tt:Txt K mg ad)(C_ways_on:Cal P w K mg base (CX1 P w) "ways_on" 5 ["words", "one", "other"] (spWaysOn K))(C_end_of:Cal P w K mg base (CX1 P w) "end_of" 1 ["word"] spEnd)(C_begin_of:Cal P w K mg base (CX1 P w) "begin_of" 1 ["word"] spBegin):FnOk P w K mg base (CX1 P w) 6 f fd ["web"] (spRingC ad.Web):=by
 refine F.okN sc_ring_count (fun vs H Q E h=>?_) (fun cdv A outer s H vs Q E hr h=>?_)
 ·obtain ⟨x,tp,n,ms,m0,rfl,_⟩:=h
  rfl
 ·obtain ⟨x,tp,n,ms,m0,rfl,hW,hok,hm0,q⟩:=h
  have hs:sizeLine=16777216:=sizeLine_eq
  obtain ⟨⟨dx,hx⟩,htp⟩:=id hW
  obtain ⟨hne,h64,hn,hxs,hnd⟩:=id hok
  have hm0m:=List.mem_of_getElem? hm0
  have hm0l:=(hxs m0 hm0m).1
  obtain ⟨hd0,hdr⟩:=drop_rm hnd hm0
  have hpos:=List.length_pos_iff.mpr hne
  refine ⟨_,(pss_cons (ps_set (i:=1) sc_ring_count.nd rfl (Or.inl rfl) (pe_ix ix_tup (pe_fld (pv 0) rfl) pe_int (fun _ _=>rfl)))
   (pss_one (ps_ret (pe_cal C_ways_on hr pass1 (pa_cons (pe_slice sl_tup (pe_fld (pv 0) rfl) (po_some pe_int) po_none) (pa_cons (pe_cal C_end_of hr pass1 (pa_cons (pv 1) pa_nil)) (pa_cons (pe_cal C_begin_of hr pass1 (pa_cons (pv 1) pa_nil)) pa_nil))))))),?_⟩
  (try rw [cxK2]);(try rw [cxK1])
  refine ⟨_,rfl,x,ad.Web,dx,_,_,rfl,hx,tt.cl_Web,tt.na_Web_words,flds_w _ _,tp,_,_,_,rfl,rfl,SqT.of htp,atI_nat (j:=0) (by rw [List.getElem?_map,hm0];rfl),?_⟩
  refine ⟨_,rfl,x,ad.Web,dx,_,_,rfl,hx,tt.cl_Web,tt.na_Web_words,flds_w _ _,_,rfl,tp,_,rfl,SqT.of htp,not_all hpos,fun p1 hp1=>?_⟩
  rw [show cutV (ms.map T) (some (1:Int)) none=(ms.drop 1).map T from cutT_from (k:=1) hpos,hdr]
  have s1:=same_upd (o:=.tup ((Dt.rm ms m0).map T)) hp1
  refine ⟨_,rfl,m0,rfl,⟨by omega,by omega⟩,_,rfl,m0,rfl,⟨by omega,by omega⟩,p1,Dt.rm ms m0,Wd.fin m0,Wd.beg m0,rfl,.inr (SqT.of upd_same),⟨Dt.rm_nd hnd,Nat.le_trans (List.length_filter_le ..) h64,fun y hy=>by have:=(hxs y (Dt.mem_rm.mp hy).1).1;omega⟩,fun G2 s2=>q G2 (s1.trans s2)⟩
def spRingBy (C:Addr)(ad:Adr):Sp:=fun vs H Q E=>∃ (x tp:Addr) (n:Nat) (ms:List (List Nat)) (m0:List Nat) (k:Int),vs=[.ref x,.int k]∧WebAt C H x tp n ms∧WebOk ms n∧ms[0]?=some m0∧(¬ (0<=k∧k<((Dt.eN (Dt.rm ms m0) (Wd.fin m0) (Wd.beg m0):Nat):Int))->∀ (H':Hp),Same H H'->E (.ref ad.NoSuch) none H') ∧
 (∀ (j:Nat) (us:List (List Nat)),k=(j:Int)->(Dt.ordN (Dt.rm ms m0).length (Dt.rm ms m0) (Wd.fin m0) (Wd.beg m0))[j]?=some us->∀ (H':Hp),Same H H'->Q (T (Dt.rT m0 us)) H')
theorem ok_ring_by {f:Addr}{fd:FuncData}(F:Fun K "ring_by" "ring_by" s_ring_by f fd)(tt:Txt K mg ad)(C_ring_count:Cal P w K mg base (CX1 P w) "ring_count" 6 ["web"] (spRingC ad.Web))(C_way_by:Cal P w K mg base (CX1 P w) "way_by" 6 ["words", "one", "other", "number"] (spWayBy K))(C_end_of:Cal P w K mg base (CX1 P w) "end_of" 1 ["word"] spEnd)(C_begin_of:Cal P w K mg base (CX1 P w) "begin_of" 1 ["word"] spBegin) :
  FnOk P w K mg base (CX1 P w) 7 f fd ["web", "number"] (spRingBy ad.Web ad):=by
 refine F.okX sc_ring_by (fun vs H Q E h=>?_) (fun cdv A outer s H vs Q E hr h=>?_)
 ·obtain ⟨x,tp,n,ms,m0,k,rfl,_⟩:=h
  rfl
 ·obtain ⟨x,tp,n,ms,m0,k,rfl,hW,hok,hm0,xn,q⟩:=h
  have hs:sizeLine=16777216:=sizeLine_eq
  obtain ⟨⟨dx,hx⟩,htp⟩:=id hW
  obtain ⟨hne,h64,hn,hxs,hnd⟩:=id hok
  have hm0m:=List.mem_of_getElem? hm0
  have hm0l:=(hxs m0 hm0m).1
  obtain ⟨hd0,hdr⟩:=drop_rm hnd hm0
  have hpos:=List.length_pos_iff.mpr hne
  refine ⟨_,(pss_cons (ps_if (PW.pt (pw_or (pt_cmpR op_lt (pv 1) pe_int (nomark _)) (pw_or1 (pt_cmpR op_ge (pv 1) (pe_cal C_ring_count hr pass1 (pa_cons (pv 0) pa_nil)) (nomark _))))) (pss_one (ps_raise (E:=fun cls H'=>E cls none H') tt.x_NoSuch rfl (fun _ _ _ _ _ _ _ I hx q=>raiseX I hx q) (pa_cons (pe_strT [116,104,101,32,119,101,98,32,104,97,115,32,110,111,32,114,105,110,103,32,111,102,32,116,104,105,115,32,110,117,109,98,101,114] (by decide +kernel)) pa_nil))) pss_nil)
   (pss_cons (ps_set (i:=2) sc_ring_by.nd rfl (Or.inl rfl) (pe_ix ix_tup (pe_fld (pv 0) rfl) pe_int (fun _ _=>rfl)))
   (pss_cons (ps_set (i:=3) sc_ring_by.nd rfl (Or.inl rfl) (pe_op op_add_T (pe_ix ix_T (pv 2) pe_int (fun _ _=>rfl)) (pe_cal C_way_by hr pass1 (pa_cons (pe_slice sl_tup (pe_fld (pv 0) rfl) (po_some pe_int) po_none) (pa_cons (pe_cal C_end_of hr pass1 (pa_cons (pv 2) pa_nil)) (pa_cons (pe_cal C_begin_of hr pass1 (pa_cons (pv 2) pa_nil)) (pa_cons (pv 1) pa_nil)))))))
   (pss_one (ps_ret (pe_slice sl_T (pv 3) po_none (po_some (pe_callB call_len_seq (by rfl) tt.b_len PySem.boot_len (pa_cons (pe_fld (pv 0) rfl) pa_nil))))))))),?_⟩
  (try rw [cxK2]);(try rw [cxK1])
  refine ⟨_,rfl,_,_,rfl,rfl,_,rfl,?_⟩
  by_cases hk0:k<0
  ·refine itP (decide_eq_true hk0) ?_
   refine itP rfl ?_
   exact ⟨(by show 1<=sizeLine;omega),xn (fun z=>by omega) H (Same.refl _)⟩
  ·refine itN (fun z=>hk0 (of_decide_eq_true z)) ?_
   refine ⟨_,rfl,_,rfl,x,tp,n,ms,m0,rfl,hW,hok,hm0,fun G1 s1=>?_⟩
   refine ⟨_,_,rfl,rfl,_,rfl,?_⟩
   by_cases hk1:k≥((Dt.eN (Dt.rm ms m0) (Wd.fin m0) (Wd.beg m0):Nat):Int)
   ·refine itP (decide_eq_true hk1) ?_
    exact ⟨(by show 1<=sizeLine;omega),xn (fun z=>by omega) G1 s1⟩
   ·refine itN (fun z=>hk1 (of_decide_eq_true z)) ?_
    obtain ⟨j,hj⟩:∃ j:Nat,k=(j:Int):=⟨k.toNat,by omega⟩
    subst hj
    have hjl:j<(Dt.ordN (Dt.rm ms m0).length (Dt.rm ms m0) (Wd.fin m0) (Wd.beg m0)).length:=by
     have:j<Dt.eN (Dt.rm ms m0) (Wd.fin m0) (Wd.beg m0):=by omega
     exact this
    obtain ⟨us,hus⟩:∃ us,(Dt.ordN (Dt.rm ms m0).length (Dt.rm ms m0) (Wd.fin m0) (Wd.beg m0))[j]?=some us:=⟨_,List.getElem?_eq_getElem hjl⟩
    have husl:=(Dt.ord_of (Dt.rm_nd hnd) hus).1.length_eq
    have hrl:=Dt.rm_len hnd hm0m
    have hxG:=s1 x _ hx
    have htG:=s1 tp _ htp
    refine ⟨_,rfl,x,ad.Web,dx,_,_,rfl,hxG,tt.cl_Web,tt.na_Web_words,flds_w _ _,tp,_,_,_,rfl,rfl,SqT.of htG,atI_nat (j:=0) (by rw [List.getElem?_map,hm0];rfl),?_⟩
    obtain ⟨c0,hc0⟩:∃ c0,m0[0]?=some c0:=⟨m0[0]'(by omega),List.getElem?_eq_getElem _⟩
    have hm00:m0=c0::m0.drop 1:=by
     cases m0 with
     | nil=>cases hc0
     | cons y r =>
      have:y=c0:=by simpa using hc0
      rw [this];rfl
    refine ⟨_,rfl,_,rfl,_,rfl,(by omega),c0,atI_nat (j:=0) hc0,?_⟩
    refine ⟨_,rfl,x,ad.Web,dx,_,_,rfl,hxG,tt.cl_Web,tt.na_Web_words,flds_w _ _,_,rfl,tp,_,rfl,SqT.of htG,not_all hpos,fun p1 hp1=>?_⟩
    rw [show cutV (ms.map T) (some (1:Int)) none=(ms.drop 1).map T from cutT_from (k:=1) hpos,hdr]
    have s2:=same_upd (o:=.tup ((Dt.rm ms m0).map T)) hp1
    refine ⟨_,rfl,m0,rfl,⟨by omega,by omega⟩,_,rfl,m0,rfl,⟨by omega,by omega⟩,_,rfl,p1,Dt.rm ms m0,us,Wd.fin m0,Wd.beg m0,j,rfl,.inr (SqT.of upd_same),⟨Dt.rm_nd hnd,Nat.le_trans (List.length_filter_le ..) h64,by show (m0.drop 1).length<=1000;rw [List.length_drop];omega,fun y hy=>by have:=(hxs y (Dt.mem_rm.mp hy).1).1;omega⟩,hus,fun G2 s3=>?_⟩
    have hfl:(Wd.fin m0++us.map Wd.lastL).length=n-1+us.length:=by rw [List.length_append,List.length_map];show (m0.drop 1).length+_=_;rw [List.length_drop];omega
    refine ⟨_,rfl,_,rfl,(by show 1+_<=sizeLine;omega),?_⟩
    have sG2:=s1.trans (s2.trans s3)
    refine ⟨_,rfl,_,rfl,x,ad.Web,dx,_,_,rfl,sG2 x _ hx,tt.cl_Web,tt.na_Web_words,flds_w _ _,tp,_,rfl,.inr (SqT.of (sG2 tp _ htp)),_,rfl,_,rfl,(by rw [List.length_append];show 1+_<=sizeLine;omega),?_⟩
    rw [List.length_map]
    have e1:[c0]++(Wd.fin m0++us.map Wd.lastL)=Wd.beg m0++(m0::us).map Wd.lastL:=by
     rw [<- List.append_assoc,List.map_cons,show [c0]++Wd.fin m0=m0 from hm00.symm]
     conv=>lhs;rw [Wd.w_split (w:=m0) (by omega)]
     rw [List.append_assoc]
     rfl
    rw [e1,show cutL (Wd.beg m0++(m0::us).map Wd.lastL) none (some ((ms.length:Nat):Int))=(Wd.beg m0++(m0::us).map Wd.lastL).take ms.length from cutL_to (by rw [List.length_append,List.length_map,List.length_cons];omega),show ms.length=us.length+1 by omega]
    exact q j us rfl hus G2 sG2
def spRingN (C:Addr)(ad:Adr):Sp:=fun vs H Q E=>∃ (x tp:Addr) (n:Nat) (ms:List (List Nat)) (m0 t:List Nat),vs=[.ref x,T t]∧WebAt C H x tp n ms∧WebOk ms n∧ms.Pairwise (fun a b=>¬ b<a)∧t.length<=60∧ms[0]?=some m0∧(¬ (RingOf t n ms∧Wd.ringAt t n 0=m0)->∀ (H':Hp),Same H H'->E (.ref ad.NotOne) none H') ∧
 (∀ (us:List (List Nat)),RingOf t n ms->Wd.ringW t n=m0::us->∀ (H':Hp),Same H H'->Q (.int (Dt.rk (Wd.beg m0) (Dt.rm ms m0) us:Nat)) H')
theorem ok_ring_number {f:Addr}{fd:FuncData}(F:Fun K "ring_number" "ring_number" s_ring_number f fd)(tt:Txt K mg ad)(C_is_ring:Cal P w K mg base (CX1 P w) "is_ring" 4 ["web", "text"] (spIsRing ad.Web))(C_way_number:Cal P w K mg base (CX1 P w) "way_number" 6 ["words", "order", "other"] (spWayNum K))(C_windows:Cal P w K mg base (CX1 P w) "windows" 2 ["text", "length", "ring"] spWin)(C_begin_of:Cal P w K mg base (CX1 P w) "begin_of" 1 ["word"] spBegin) :
  FnOk P w K mg base (CX1 P w) 7 f fd ["web", "ring"] (spRingN ad.Web ad):=by
 refine F.okX sc_ring_number (fun vs H Q E h=>?_) (fun cdv A outer s H vs Q E hr h=>?_)
 ·obtain ⟨x,tp,n,ms,m0,t,rfl,_⟩:=h
  rfl
 ·obtain ⟨x,tp,n,ms,m0,t,rfl,hW,hok,hsm,htl,hm0,xn,q⟩:=h
  have hs:sizeLine=16777216:=sizeLine_eq
  obtain ⟨hne,h64,hn,hxs,hnd⟩:=id hok
  have hm0m:=List.mem_of_getElem? hm0
  have hm0l:=(hxs m0 hm0m).1
  obtain ⟨hd0,hdr⟩:=drop_rm hnd hm0
  have hpos:=List.length_pos_iff.mpr hne
  refine ⟨_,(pss_cons (ps_if (pt_not (pt_val (pe_cal C_is_ring hr pass1 (pa_cons (pv 0) (pa_cons (pv 1) pa_nil))))) (pss_one (ps_raise (E:=fun cls H'=>E cls none H') tt.x_NotOne rfl (fun _ _ _ _ _ _ _ I hx q=>raiseX I hx q) (pa_cons (pe_strT [116,104,101,32,116,101,120,116,32,105,115,32,110,111,32,114,105,110,103,32,111,102,32,116,104,101,32,119,101,98,44,32,116,111,108,100,32,102,114,111,109,32,105,116,115,32,108,101,97,115,116,32,119,111,114,100] (by decide +kernel)) pa_nil))) pss_nil)
   (pss_one (ps_ret (pe_cal C_way_number hr pass1 (pa_cons (pe_slice sl_tup (pe_fld (pv 0) rfl) (po_some pe_int) po_none) (pa_cons (pe_slice sl_list (pe_cal C_windows hr pass1 (pa_cons (pv 1) (pa_cons (pe_fld (pv 0) rfl) (pa_cons pe_bl pa_nil)))) (po_some pe_int) po_none) (pa_cons (pe_cal C_begin_of hr pass1 (pa_cons (pe_ix ix_tup (pe_fld (pv 0) rfl) pe_int (fun _ _=>rfl)) pa_nil)) pa_nil))))))),?_⟩
  (try rw [cxK2]);(try rw [cxK1])
  refine ⟨_,rfl,_,rfl,x,tp,t,m0,n,ms,rfl,hW,hsm,⟨by omega,by omega,by omega⟩,hm0,fun b G1 s1 hb=>⟨_,rfl,?_⟩⟩
  cases b with
  | false =>
   refine iteT ?_
   exact ⟨(by show 1<=sizeLine;omega),xn (fun z=>by have:=hb.mpr z;cases this) G1 s1⟩
  | true =>
   refine iteF ?_
   obtain ⟨hR,hR0⟩:=hb.mp rfl
   obtain ⟨us,hus,_,_⟩:=Dt.ring_is (by omega) (fun w hw=>(hxs w hw).1) hR hne hR0
   obtain ⟨⟨dx,hx⟩,htp⟩:=hW.on s1
   refine ⟨_,rfl,x,ad.Web,dx,_,_,rfl,hx,tt.cl_Web,tt.na_Web_words,flds_w _ _,_,rfl,tp,_,rfl,SqT.of htp,not_all hpos,fun p1 hp1=>?_⟩
   rw [show cutV (ms.map T) (some (1:Int)) none=(ms.drop 1).map T from cutT_from (k:=1) hpos,hdr]
   have s2:=same_upd (o:=.tup ((Dt.rm ms m0).map T)) hp1
   refine ⟨_,rfl,_,rfl,x,ad.Web,dx,_,_,rfl,s2 x _ hx,tt.cl_Web,tt.na_Web_length,flds_l _ _,t,n,true,rfl,⟨by omega,by omega,by omega⟩,fun D3 G3 hD3 s3 hd3=>?_⟩
   rw [show Wd.win t n true=Wd.ringW t n from if_pos rfl,hus] at hd3
   refine ⟨_,rfl,D3,_,rfl,SqL.of hd3,fun p4 hp4=>?_⟩
   rw [show cutV ((m0::us).map T) (some (1:Int)) none=us.map T from cutT_from (ls:=m0::us) (k:=1) (by simp)]
   have s4:=same_upd (o:=.lst (us.map T)) hp4
   have s24:=s2.trans (s3.trans s4)
   refine ⟨_,rfl,x,ad.Web,dx,_,_,rfl,s24 x _ hx,tt.cl_Web,tt.na_Web_words,flds_w _ _,tp,_,_,_,rfl,rfl,SqT.of (s24 tp _ htp),atI_nat (j:=0) (by rw [List.getElem?_map,hm0];rfl),m0,rfl,⟨by omega,by omega⟩,p1,p4,Dt.rm ms m0,us,Wd.beg m0,rfl,.inr (SqT.of ((s3.trans s4) p1 _ upd_same)),SqL.of upd_same,⟨Dt.rm_nd hnd,Nat.le_trans (List.length_filter_le ..) h64,fun y hy=>by have:=(hxs y (Dt.mem_rm.mp hy).1).1;omega⟩,?_,fun G5 s5=>q us hR hus G5 (s1.trans (s24.trans s5))⟩
   have hR':(Wd.ringW t n).Perm ms:=hR
   rw [hus] at hR'
   exact (hR'.trans (Dt.rm_perm hnd hm0m)).cons_inv
def spCell (K:PySem.W.Frag):Sp:=fun vs H Q _=>∃ (a:Addr) (ns:List Int) (k:Nat),vs=[.ref a,.int (k:Nat)]∧SqL K H a (ns.map V.int)∧Q (.int (ns.getD k 0)) H
theorem ok__law_cell_at {f:Addr}{fd:FuncData}(F:Fun K "_law_cell_at" "_law_cell_at" s__law_cell_at f fd)(tt:Txt K mg ad):FnOk P w K mg base (CX1 P w) 1 f fd ["script", "k"] (spCell K):=by
 refine F.okN sc__law_cell_at (fun vs H Q E h=>?_) (fun cdv A outer s H vs Q E hr h=>?_)
 ·obtain ⟨a,ns,k,rfl,_⟩:=h
  rfl
 ·obtain ⟨a,ns,k,rfl,hS,q⟩:=h
  refine ⟨_,(pss_cons (ps_if (pt_cmpR op_lt (pv 1) (pe_callB call_len_seq (by rfl) tt.b_len PySem.boot_len (pa_cons (pv 0) pa_nil)) (nomark _)) (pss_one (ps_ret (pe_ix ix_list (pv 0) (pv 1) (fun _ _=>rfl)))) pss_nil)
   (pss_one (ps_ret pe_int))),?_⟩
  (try rw [cxK2]);(try rw [cxK1])
  refine ⟨_,rfl,_,rfl,a,_,rfl,.inl hS,_,_,rfl,rfl,_,rfl,?_⟩
  rw [List.length_map]
  refine ite2 (fun h0=>?_) (fun h0=>?_)
  ·have h1:k<ns.length:=by have:=of_decide_eq_true h0;omega
   rw [List.getD_eq_getElem?_getD,List.getElem?_eq_getElem h1] at q
   exact ⟨_,rfl,_,rfl,a,_,_,_,rfl,rfl,hS,atI_nat (by rw [List.getElem?_map,List.getElem?_eq_getElem h1];rfl),q⟩
  ·have h1:¬ k<ns.length:=fun z=>h0 (decide_eq_true (by omega))
   rw [List.getD_eq_getElem?_getD,List.getElem?_eq_none (by omega)] at q
   exact q
abbrev En (l:List Nat):List Nat:=l.drop 1
theorem beg_snoc (h:List Nat)(c:Nat):beg (h++[c])=h:=by
 unfold beg
 rw [List.length_append,List.length_singleton,Nat.add_sub_cancel,List.take_left']
 rfl
abbrev Tr (p:List Nat)(ls:List (List Nat))(q:List Nat):Prop:=Hg.Tr beg En p ls q
theorem abc_at {s:Int}(h0:0<=s)(h1:s<6):∃ c,atI [97,98,99,100,101,102] s=some c∧97<=c∧c<103:=by
 obtain ⟨m,hm⟩:=Int.eq_ofNat_of_zero_le h0
 have hm':s=(m:Int):=hm
 subst hm'
 exact ⟨97+m,atI_nat (abc6 (by omega)),by omega,by omega⟩
def WL (ls:List (List Nat))(n:Nat):Prop:=(∀ x∈ls,x.length=n∧Abc x)∧ls.Nodup
theorem WL.sub {ls ls':List (List Nat)}{n:Nat}(h:WL ls n)(s:ls'.Sublist ls):WL ls' n:=⟨fun x hx=>h.1 x (s.subset hx),h.2.sublist s⟩
theorem WL.snoc {ls:List (List Nat)}{n:Nat}{t:List Nat}(h:WL ls n)(ht:t.length=n∧Abc t)(hn:¬ t∈ls):WL (ls++[t]) n:=by
 refine ⟨fun x hx=>?_,List.nodup_append.mpr ⟨h.2,by simp,fun a ha b hb ee=>hn ?_⟩⟩
 ·rcases List.mem_append.mp hx with z | z
  ·exact h.1 x z
  ·have e:x=t:=by simpa using z
   subst e
   exact ht
 ·have hb':b=t:=by simpa using hb
  rw [<- hb',<- ee]
  exact ha
theorem abc_take {k c:Nat}(h:c∈([97,98,99,100,101,102]:List Nat).take k):97<=c∧c<103:=by
 have:=List.mem_of_mem_take h
 simp at this
 omega
def spWalk (K:PySem.W.Frag):Sp:=fun vs H Q _=>∃ (c:Addr) (ns:List Int) (k:Nat) (f0:List Nat),vs=[.ref c,.int (k:Nat),T f0]∧SqL K H c (ns.map V.int)∧(ns.length<=63∧k<=6∧f0.length<=10)∧Abc f0 ∧
 ∀ (D:Addr) (ls:List (List Nat)) (H':Hp),Same H H'->H' D=some (.lst (ls.map T))->WL ls (f0.length+1)->ls.length<=ns.length->(∃ q0,Tr f0 ls q0)->Q (.ref D) H'
theorem ok__law_walk {f:Addr}{fd:FuncData}(F:Fun K "_law_walk" "_law_walk" s__law_walk f fd)(tt:Txt K mg ad):FnOk P w K mg base (CX1 P w) 1 f fd ["cells", "kinds", "first"] (spWalk K):=by
 refine F.okN sc__law_walk (fun vs H Q E h=>?_) (fun cdv A outer s H vs Q E hr h=>?_)
 ·obtain ⟨c,ns,k,f0,rfl,_⟩:=h
  rfl
 ·obtain ⟨c,ns,k,f0,rfl,hS,hb,hf0,q⟩:=h
  have hs:sizeLine=16777216:=sizeLine_eq
  have hnl:(ns.map V.int).length=ns.length:=List.length_map ..
  refine ⟨_,(pss_cons (ps_set (i:=3) sc__law_walk.nd rfl (Or.inr rfl) (pe_lst pa_nil))
   (pss_cons (ps_set (i:=4) sc__law_walk.nd rfl (Or.inr rfl) (pv 2))
   (pss_cons (ps_for PassesOwn.never rfl (pi_list (pv 0)) (pg_name (i:=5) sc__law_walk.nd rfl (Or.inl rfl)) (pss_cons (ps_setCompf (i:=6) cs__law_walk_0 rfl (pi_str (pe_slice sl_T (pe_strT [97,98,99,100,101,102] (by decide +kernel)) po_none (po_some (pv 1)))) (fun cl C s' H' fp=>(pt_cmpR (op_notIn_seqK K rfl) (pe_op op_add_T (pv 5) (pv 0)) (pv 4) (by with_unfolding_all rfl))) (fun cl C s' H' fp=>(pe_op op_add_T (pv 5) (pv 0))) sc__law_walk.nd rfl rfl)
   (pss_cons (ps_if (pt_cmpR op_eq_I (pe_callB call_len_seq (by rfl) tt.b_len PySem.boot_len (pa_cons (pv 6) pa_nil)) pe_int (nomark _)) (pss_one ps_break) pss_nil)
   (pss_cons (ps_set (i:=7) sc__law_walk.nd rfl (Or.inl rfl) (pe_ix ix_list (pv 6) (pe_op op_mod (pv 5) (pe_callB call_len_seq (by rfl) tt.b_len PySem.boot_len (pa_cons (pv 6) pa_nil))) (fun _ _=>rfl)))
   (pss_cons (ps_expr (pe_bm PySem.F.plainAttrs_list PySem.F.slot_list_append PySem.F.type_list_append mt_append (pv 3) (pa_cons (pv 7) pa_nil)))
   (pss_one (ps_set (i:=4) sc__law_walk.nd rfl (Or.inr rfl) (pe_slice sl_T (pv 7) (po_some pe_int) po_none))))))))
   (pss_one (ps_ret (pv 3)))))),?_⟩
  (try rw [cxK2]);(try rw [cxK1])
  refine ⟨(by show 0<=sizeLine;omega),fun D hD=>?_⟩
  have s0:=same_upd (o:=.lst []) hD
  refine ⟨_,rfl,?_⟩
  refine ⟨_,rfl,c,rfl,⟨_,s0.seq hS⟩,?_⟩
  refine for_list (K:=K) (a:=c) (xs:=ns.map V.int) (fun i σ H2=>Same H H2∧∃ (ls:List (List Nat)) (hh:List Nat) (v5 v6 v7:Option V),H2 D=some (.lst (ls.map T))∧WL ls (f0.length+1)∧ls.length<=i∧hh.length=f0.length∧Abc hh∧Tr f0 ls hh∧σ=[some (.ref c),some (.int (k:Nat)),some (T f0),some (.ref D),some (T hh),v5,v6,v7])
   ⟨s0,[],f0,none,none,none,upd_same,⟨fun x hx=>(by simp at hx),List.nodup_nil⟩,Nat.le_refl _,rfl,hf0,rfl,rfl⟩ (fun i σ H2 _ h=>h.1.seq hS) ?_ ?_
  ·rintro i y σ H2 hi ⟨s2,ls,hh,v5,v6,v7,hd,hwl,hl,hhl,hab,htr,rfl⟩
   have hi63:i<ns.length:=by have:=(List.getElem?_eq_some_iff.mp hi).1;omega
   obtain ⟨z,rfl⟩:∃ z,y=V.int z:=by
    obtain ⟨z,_,e⟩:=List.mem_map.mp (List.mem_of_getElem? hi)
    exact ⟨z,e.symm⟩
   refine ⟨_,rfl,_,rfl,_,rfl,(by show 6<=sizeLine;omega),?_⟩
   have ec:cutL [97,98,99,100,101,102] none (some ((k:Nat):Int))=([97,98,99,100,101,102]:List Nat).take k:=cutL_take _ _
   rw [ec]
   refine ⟨_,rfl,?_⟩
   generalize hsg:([97,98,99,100,101,102]:List Nat).take k=sg
   have hsgl:sg.length<=6:=by rw [<- hsg,List.length_take];exact Nat.min_le_right _ _
   have hsga:∀ c∈sg,97<=c∧c<103:=fun c hc=>abc_take (by rw [hsg];exact hc)
   refine compFG (vs:=(sg.map fun c=>[c]).map T) (fun v=>!decide (hh++unT v∈ls)) (fun v=>T (hh++unT v)) reads_text (by rw [List.length_map,List.length_map];omega) (fun v H3 hv s3 N hN=>?_) (fun v H3 hv hp s3 N hN=>?_) fun D1 H3 hD1 s3 hd3=>?_
   ·obtain ⟨l,hl',rfl⟩:=List.mem_map.mp hv
    obtain ⟨ch,hch,rfl⟩:=List.mem_map.mp hl'
    have g:=hN H3 (Same.refl _)
    rw [unT_T] at g
    refine ⟨_,rfl,_,rfl,_,rfl,_,rfl,(by show hh.length+1<=sizeLine;omega),_,rfl,D,_,rfl,.inl (SqL.of (s3 D _ hd)),rfl,all_flat ls,_,rfl,?_⟩
    show N (!inV (T (hh++[ch])) (ls.map T)) H3
    rw [inV_T]
    exact g
   ·obtain ⟨l,hl',rfl⟩:=List.mem_map.mp hv
    obtain ⟨ch,hch,rfl⟩:=List.mem_map.mp hl'
    have g:=hN H3 (Same.refl _)
    rw [unT_T] at g
    exact ⟨_,rfl,_,rfl,_,rfl,_,rfl,(by show hh.length+1<=sizeLine;omega),g⟩
   obtain ⟨fr,hfr,hfm⟩:∃ fr:List (List Nat),(((sg.map fun c=>[c]).map T).filter (fun v=>!decide (hh++unT v∈ls))).map (fun v=>T (hh++unT v))=fr.map T∧∀ t∈fr,(t.length=f0.length+1∧Abc t)∧¬ t∈ls∧beg t=hh:=by
    refine ⟨((sg.map fun c=>[c]).filter fun l=>!decide (hh++l∈ls)).map fun l=>hh++l,?_,fun t ht=>?_⟩
    ·rw [show ((sg.map fun c=>[c]).map T).filter (fun v=>!decide (hh++unT v∈ls))=((sg.map fun c=>[c]).filter fun l=>!decide (hh++l∈ls)).map T from filter_unT (p:=fun l=>!decide (hh++l∈ls)) _,map_unT (f:=fun l=>T (hh++l)),List.map_map]
     rfl
    ·obtain ⟨l,hl',rfl⟩:=List.mem_map.mp ht
     obtain ⟨h1,h2⟩:=List.mem_filter.mp hl'
     obtain ⟨ch,hch,rfl⟩:=List.mem_map.mp h1
     refine ⟨⟨by rw [List.length_append,hhl];rfl,fun d hd'=>?_⟩,(fun z=>by rw [decide_eq_true z] at h2;cases h2),beg_snoc hh ch⟩
     rcases List.mem_append.mp hd' with g | g
     ·exact hab d g
     ·have e:d=ch:=by simpa using g
      subst e
      exact hsga d hch
   rw [hfr] at hd3
   have hfl:(fr.map T).length=fr.length:=List.length_map ..
   refine ⟨_,rfl,D1,_,rfl,.inl (SqL.of hd3),_,rfl,_,rfl,_,rfl,?_⟩
   rw [hfl]
   refine ite2 (fun h0=>?_) (fun h0=>?_)
   ·exact ⟨_,rfl,q D ls H3 (s2.trans s3) (s3 D _ hd) hwl (by omega) ⟨_,htr⟩⟩
   have hf0:0<fr.length:=by
    rcases Nat.eq_zero_or_pos fr.length with g | g
    ·exact absurd (decide_eq_true (by rw [g];rfl)) h0
    ·exact g
   have z0:=Int.emod_nonneg z (show ((fr.length:Nat):Int)≠0 by omega)
   have z1:=Int.emod_lt_of_pos z (show (0:Int)<((fr.length:Nat):Int) by omega)
   obtain ⟨m,hm,hml⟩:∃ m:Nat,z % ((fr.length:Nat):Int)=(m:Int)∧m<fr.length:=⟨(z % ((fr.length:Nat):Int)).toNat,by omega,by omega⟩
   obtain ⟨t,ht⟩:∃ t,fr[m]?=some t:=⟨_,List.getElem?_eq_getElem hml⟩
   obtain ⟨htn,htl,htb⟩:=hfm t (List.mem_of_getElem? ht)
   refine ⟨_,rfl,_,rfl,_,rfl,D1,_,rfl,.inl (SqL.of hd3),_,_,rfl,rfl,(by show (0:Int)<(((fr.map T).length:Nat):Int);omega),D1,_,_,_,rfl,rfl,SqL.of hd3,(by rw [hfl,hm];exact atI_nat (by rw [List.getElem?_map,ht];rfl)),?_⟩
   refine ⟨_,rfl,.inl ⟨rfl,_,SqL.of (s3 D _ hd)⟩,_,rfl,D,_,_,rfl,rfl,s3 D _ hd,(by rw [List.length_map];omega),?_⟩
   have ed:cutL t (some 1) none=t.drop 1:=cutL_from (k:=1) (by omega)
   refine ⟨_,rfl,_,rfl,_,rfl,(by omega),?_⟩
   refine ⟨(fun b o e=>by rw [upd_ne (ne_of_none e hD)];exact (s2.trans s3) b o e),ls++[t],t.drop 1,some (.int z),some (.ref D1),some (T t),by rw [List.map_append];exact upd_same,hwl.snoc htn htl,by rw [List.length_append,List.length_singleton];omega,by rw [List.length_drop];omega,fun d hd'=>htn.2 d (List.mem_of_mem_drop hd'),Hg.Tr.snoc (by rw [htb];exact htr),?_⟩
   rw [<- ed]
   rfl
  ·rintro σ H2 ⟨s2,ls,hh,v5,v6,v7,hd,hwl,hl,hhl,hab,htr,rfl⟩
   exact ⟨_,rfl,q D ls H2 s2 hd hwl (by omega) ⟨_,htr⟩⟩
theorem rep_one (c:Nat):∀ n:Nat,Wd.rep n [c]=List.replicate n c
 | 0=>rfl
 | n+1=>by
  have ih:=rep_one c n
  unfold Wd.rep at ih ⊢
  rw [List.replicate_succ,List.flatten_cons,ih,List.replicate_succ]
  rfl
theorem rep_round (c:Nat)(n:Nat):beg (Wd.rep n [c])=(Wd.rep n [c]).drop 1:=by
 unfold beg
 rw [rep_one,List.length_replicate,List.take_replicate,List.drop_replicate,Nat.min_eq_left (by omega)]
theorem cutV_ints {ns:List Int}{lo hi:Option Int}:∃ ms:List Int,cutV (ns.map V.int) lo hi=ms.map V.int:=by
 refine ⟨(ns.drop (HT.sIx ns.length 0 lo)).take (HT.sIx ns.length ns.length hi-HT.sIx ns.length 0 lo),?_⟩
 rw [cutV,List.length_map,List.map_take,List.map_drop]
theorem cutV_mid_len {xs:List V}{a b:Nat}:(cutV xs (some (a:Int)) (some (b:Int))).length<=b-a:=by
 unfold cutV
 rw [HT.sIx_nat,HT.sIx_nat,List.length_take,List.length_drop]
 omega
theorem pickN {l:List Int}{lo hi:Int}(h:∀ x∈l,lo<=x∧x<=hi){z:Int}(h0:0<=z)(h1:z<l.length):∃ v:Int,atI (l.map V.int) z=some (.int v)∧lo<=v∧v<=hi:=by
 obtain ⟨m,rfl⟩:∃ m:Nat,z=(m:Int):=⟨z.toNat,by omega⟩
 have hm:m<l.length:=by omega
 obtain ⟨a,b⟩:=h _ (List.getElem_mem hm)
 exact ⟨l[m],atI_nat (by rw [List.getElem?_map,List.getElem?_eq_getElem hm];rfl),a,b⟩
theorem cutV_init {ls:List (List Nat)}:cutV (ls.map T) none (some (-1))=(ls.take (ls.length-1)).map T:=by
 unfold cutV
 rw [HT.sIx_none,List.drop_zero,Nat.sub_zero,List.length_map,List.map_take]
 show (ls.map T).take (if (-1:Int)<0 then ((-1:Int)+(ls.length:Int)).toNat else min (-1:Int).toNat ls.length)=_
 rw [if_pos (by decide),show ((-1:Int)+(ls.length:Int)).toNat=ls.length-1 by omega]
theorem rep_a (n:Nat):(Wd.rep n [97]).length=n∧Abc (Wd.rep n [97]):=by
 refine ⟨by rw [Wd.rep_len];show n*1=n;omega,fun c hc=>?_⟩
 unfold Wd.rep at hc
 obtain ⟨l,h1,h2⟩:=List.mem_flatten.mp hc
 rw [List.eq_of_mem_replicate h1] at h2
 have e:c=97:=by simpa using h2
 omega
theorem WL.one {n:Nat}{t:List Nat}(h:t.length=n∧Abc t):WL [t] n:=⟨fun x hx=>by rw [List.mem_singleton.mp hx];exact h,by simp⟩
def spRingWd (K:PySem.W.Frag):Sp:=fun vs H Q _=>∃ (a:Addr) (ns:List Int) (mo:Nat),vs=[.ref a,.int 0,.int (mo:Nat)]∧mo<=40∧SqL K H a (ns.map V.int)∧∀ (D:Addr) (ls:List (List Nat)) (n:Nat) (H':Hp),Same H H'->H' D=some (.lst (ls.map T))->WL ls n->(1<=n∧n<=5)->ls≠[]->ls.length<=mo∨ls.length<=1->(∃ f0,Tr f0 ls f0)->Q (.ref D) H'
theorem ok__law_ring_words {f:Addr}{fd:FuncData}(F:Fun K "_law_ring_words" "_law_ring_words" s__law_ring_words f fd)(tt:Txt K mg ad)(C__law_cell_at:Cal P w K mg base (CX1 P w) "_law_cell_at" 1 ["script", "k"] (spCell K))(C__law_walk:Cal P w K mg base (CX1 P w) "_law_walk" 1 ["cells", "kinds", "first"] (spWalk K)) :
  FnOk P w K mg base (CX1 P w) 2 f fd ["script", "at", "most"] (spRingWd K):=by
 refine F.okN sc__law_ring_words (fun vs H Q E h=>?_) (fun cdv A outer s H vs Q E hr h=>?_)
 ·obtain ⟨a,ns,mo,rfl,_⟩:=h
  rfl
 ·obtain ⟨a,ns,mo,rfl,hmo,hS,q⟩:=h
  have hs:sizeLine=16777216:=sizeLine_eq
  obtain ⟨nz,hnz,n1,n5⟩:=pickN (l:=[2,3,1,4,2,3,5]) (lo:=1) (hi:=5) (by decide) (Int.emod_nonneg (ns.getD 0 0) (show (7:Int)≠0 by decide)) (Int.emod_lt_of_pos _ (show (0:Int)<7 by decide))
  obtain ⟨kz,hkz,k1,k6⟩:=pickN (l:=[2,3,2,2,4,6,2,1]) (lo:=1) (hi:=6) (by decide) (Int.emod_nonneg (ns.getD 1 0) (show (8:Int)≠0 by decide)) (Int.emod_lt_of_pos _ (show (0:Int)<8 by decide))
  obtain ⟨n,rfl⟩:∃ n:Nat,nz=(n:Int):=⟨nz.toNat,by omega⟩
  obtain ⟨k,rfl⟩:∃ k:Nat,kz=(k:Int):=⟨kz.toNat,by omega⟩
  refine ⟨_,(pss_cons (ps_set (i:=3) sc__law_ring_words.nd rfl (Or.inl rfl) (pe_ix ix_list (pe_lst (pa_cons pe_int (pa_cons pe_int (pa_cons pe_int (pa_cons pe_int (pa_cons pe_int (pa_cons pe_int (pa_cons pe_int pa_nil)))))))) (pe_op op_mod (pe_cal C__law_cell_at hr pass1 (pa_cons (pv 0) (pa_cons (pv 1) pa_nil))) pe_int) (fun _ _=>rfl)))
   (pss_cons (ps_set (i:=4) sc__law_ring_words.nd rfl (Or.inl rfl) (pe_ix ix_list (pe_lst (pa_cons pe_int (pa_cons pe_int (pa_cons pe_int (pa_cons pe_int (pa_cons pe_int (pa_cons pe_int (pa_cons pe_int (pa_cons pe_int pa_nil))))))))) (pe_op op_mod (pe_cal C__law_cell_at hr pass1 (pa_cons (pv 0) (pa_cons (pe_op op_add (pv 1) pe_int) pa_nil))) pe_int) (fun _ _=>rfl)))
   (pss_cons (ps_set (i:=5) sc__law_ring_words.nd rfl (Or.inl rfl) (pe_cal C__law_cell_at hr pass1 (pa_cons (pv 0) (pa_cons (pe_op op_add (pv 1) pe_int) pa_nil))))
   (pss_cons (ps_set (i:=6) sc__law_ring_words.nd rfl (Or.inl rfl) (pe_strT [] (by decide +kernel)))
   (pss_cons (ps_for PassesOwn.never rfl (pi_range1 (by rfl) tt.b_range (pa_cons (pe_op op_sub (pv 3) pe_int) pa_nil)) (pg_name (i:=7) sc__law_ring_words.nd rfl (Or.inl rfl)) (pss_cons (ps_set (i:=6) sc__law_ring_words.nd rfl (Or.inl rfl) (pe_op op_add_T (pv 6) (pe_ix ix_T (pe_strT [97,98,99,100,101,102] (by decide +kernel)) (pe_op op_mod (pv 5) (pv 4)) (fun _ _=>rfl))))
   (pss_one (ps_set (i:=5) sc__law_ring_words.nd rfl (Or.inl rfl) (pe_op op_fdiv (pv 5) (pv 4))))))
   (pss_cons (ps_set (i:=8) sc__law_ring_words.nd rfl (Or.inl rfl) (pe_cal C__law_walk hr pass1 (pa_cons (pe_slice sl_list (pv 0) (po_some (pe_op op_add (pv 1) pe_int)) (po_some (pe_op op_add (pe_op op_add (pv 1) pe_int) (pv 2)))) (pa_cons (pv 4) (pa_cons (pv 6) pa_nil)))))
   (pss_cons (ps_while PassesOwn.never (PW.pt (pw_and (pt_cmpR op_gt (pe_callB call_len_seq (by rfl) tt.b_len PySem.boot_len (pa_cons (pv 8) pa_nil)) pe_int (nomark _)) (pw_and1 (pt_cmpR op_ne_T (pe_slice sl_T (pe_ix ix_list (pv 8) (pe_un un_neg pe_int) (fun _ _=>rfl)) (po_some pe_int) po_none) (pv 6) (nomark _))))) (pss_one (ps_set (i:=8) sc__law_ring_words.nd rfl (Or.inl rfl) (pe_slice sl_list (pv 8) po_none (po_some (pe_un un_neg pe_int))))))
   (pss_cons (ps_if (pt_cmpR op_eq_I (pe_callB call_len_seq (by rfl) tt.b_len PySem.boot_len (pa_cons (pv 8) pa_nil)) pe_int (nomark _)) (pss_one (ps_set (i:=8) sc__law_ring_words.nd rfl (Or.inl rfl) (pe_lst (pa_cons (pe_op op_mul_T (pe_strT [97] (by decide +kernel)) (pv 3)) pa_nil)))) pss_nil)
   (pss_one (ps_ret (pv 8))))))))))),?_⟩
  (try rw [cxK2]);(try rw [cxK1])
  refine ⟨(by show 7<=sizeLine;omega),fun p1 hp1=>?_⟩
  have s1:=same_upd (o:=.lst [.int 2,.int 3,.int 1,.int 4,.int 2,.int 3,.int 5]) hp1
  refine ⟨_,rfl,_,rfl,a,ns,0,rfl,s1.seq hS,_,_,rfl,rfl,(by show (0:Int)<7;decide),p1,_,_,_,rfl,rfl,SqL.of upd_same,hnz,?_⟩
  refine ⟨(by show 8<=sizeLine;omega),fun p2 hp2=>?_⟩
  have s2:=s1.trans (same_upd (o:=.lst [.int 2,.int 3,.int 2,.int 2,.int 4,.int 6,.int 2,.int 1]) hp2)
  refine ⟨_,rfl,_,rfl,_,_,rfl,rfl,a,ns,1,rfl,s2.seq hS,_,_,rfl,rfl,(by show (0:Int)<8;decide),p2,_,_,_,rfl,rfl,SqL.of upd_same,hkz,?_⟩
  obtain ⟨H2,hH2,s2⟩:=named s2
  rw [<- hH2]
  refine ⟨_,rfl,_,rfl,_,_,rfl,rfl,a,ns,2,rfl,s2.seq hS,?_⟩
  refine ⟨_,rfl,_,_,rfl,rfl,_,rfl,by omega,by omega,?_⟩
  rw [show (((n:Nat):Int)-1).toNat=n-1 by omega]
  refine for_range (fun i σ H3=>H2=H3∧∃ (d:Int) (t:List Nat) (v7:Option V),t.length=i∧Abc t∧σ=[some (.ref a),some (.int 0),some (.int (mo:Nat)),some (.int (n:Nat)),some (.int (k:Nat)),some (.int d),some (T t),v7,none])
   ⟨rfl,ns.getD 2 0,[],none,rfl,(fun c hc=>by simp at hc),rfl⟩ ?_ ?_
  ·rintro i σ H3 hi ⟨rfl,d,t,v7,ht,hab,rfl⟩
   have z0:=Int.emod_nonneg d (show ((k:Nat):Int)≠0 by omega)
   have z1:=Int.emod_lt_of_pos d (show (0:Int)<((k:Nat):Int) by omega)
   obtain ⟨c,hc,c0,c1⟩:=abc_at z0 (by omega)
   refine ⟨_,rfl,_,rfl,_,rfl,_,_,rfl,rfl,(by show (0:Int)<((k:Nat):Int);omega),_,rfl,_,rfl,(by show 6<=sizeLine;omega),c,hc,_,rfl,_,rfl,(by show t.length+1<=sizeLine;omega),?_⟩
   refine ⟨_,rfl,_,rfl,_,_,rfl,rfl,⟨by omega,by omega⟩,?_⟩
   refine ⟨rfl,d/((k:Nat):Int),t++[c],some (.int (0+(i:Int))),by rw [List.length_append,ht];rfl,fun e he=>?_,rfl⟩
   rcases List.mem_append.mp he with g | g
   ·exact hab e g
   ·have e':e=c:=by simpa using g
    subst e'
    exact ⟨c0,c1⟩
  ·rintro σ H3 ⟨rfl,d,f0,v7,hf,hab,rfl⟩
   obtain ⟨ds,hds⟩:∃ ds:List Int,cutV (ns.map V.int) (some ((3:Nat):Int)) (some ((3+mo:Nat):Int))=ds.map V.int:=cutV_ints
   have hdl:ds.length<=mo:=by
    have e:=congrArg List.length hds
    have e2:=cutV_mid_len (xs:=ns.map V.int) (a:=3) (b:=3+mo)
    rw [List.length_map] at e
    omega
   refine ⟨_,rfl,_,rfl,_,_,rfl,rfl,_,rfl,_,rfl,_,_,rfl,rfl,_,rfl,_,_,rfl,rfl,_,rfl,a,_,rfl,s2.seq hS,fun p4 hp4=>?_⟩
   rw [show cutV (ns.map V.int) (some ((0:Int)+3)) (some ((0:Int)+3+(mo:Nat)))=ds.map V.int by rw [<- hds];congr 2]
   have s4:=s2.trans (same_upd (o:=.lst (ds.map V.int)) hp4)
   refine ⟨_,rfl,_,rfl,p4,ds,k,f0,rfl,SqL.of upd_same,⟨by omega,by omega,by omega⟩,hab,fun D ls H5 s5 hd hwl hl htr=>?_⟩
   have hn':f0.length+1=n:=by omega
   rw [hn'] at hwl
   have s05:=s4.trans s5
   refine ⟨fun m σ H6=>∃ (p:Addr) (ls':List (List Nat)),m=ls'.length∧Same H H6∧H6 p=some (.lst (ls'.map T))∧WL ls' n∧ls'.length<=mo∧(∃ q0,Tr f0 ls' q0)∧σ=[some (.ref a),some (.int 0),some (.int (mo:Nat)),some (.int (n:Nat)),some (.int (k:Nat)),some (.int d),some (T f0),v7,some (.ref p)],⟨ls.length,D,ls,rfl,s05,hd,hwl,by omega,htr,rfl⟩,?_⟩
   rintro m σ H6 ⟨p,ls',hm,s6,hd6,hw6,hl6,htr6,rfl⟩
   have hml:(ls'.map T).length=ls'.length:=List.length_map ..
   have fin:∀ (D:Addr) (ls2:List (List Nat)) (H':Hp),Same H H'->H' D=some (.lst (ls2.map T))->WL ls2 n->ls2≠[]->ls2.length<=mo∨ls2.length<=1->(∃ f0,Tr f0 ls2 f0)->Q (.ref D) H':=fun D ls2 H' h1 h2 h3 h4 h5 h6=>q D ls2 n H' h1 h2 h3 ⟨by omega,by omega⟩ h4 h5 h6
   refine ⟨_,rfl,p,_,rfl,.inl (SqL.of hd6),_,_,rfl,rfl,_,rfl,?_⟩
   rw [hml]
   refine ite2 (fun h0=>?a) (fun h0=>?b)
   case' a =>
    have h0':0<ls'.length:=by have:=of_decide_eq_true h0;omega
    obtain ⟨t,ht⟩:∃ t,ls'[ls'.length-1]?=some t:=⟨_,List.getElem?_eq_getElem (by omega)⟩
    have htl:=(hw6.1 t (List.mem_of_getElem? ht)).1
    have hat:atI (ls'.map T) (-1)=some (T t):=by
     show (ixN (ls'.map T).length (-1)).bind _=_
     rw [hml]
     unfold ixN
     rw [if_neg (by decide),if_pos (by omega),show ((-1:Int)+ls'.length).toNat=ls'.length-1 by omega]
     show (ls'.map T)[ls'.length-1]?=_
     rw [List.getElem?_map,ht]
     rfl
    refine ⟨_,rfl,_,rfl,p,_,_,_,rfl,rfl,SqL.of hd6,hat,_,rfl,_,rfl,(by omega),_,rfl,_,rfl,_,rfl,_,rfl,?_⟩
    refine ite2 (fun h1=>?a1) (fun h1=>?a2)
   case a1 =>
    refine ⟨_,fun σ' H' z=>z,?_⟩
    refine ⟨_,rfl,_,rfl,_,rfl,p,_,rfl,SqL.of hd6,fun p7 hp7=>?_⟩
    rw [show cutV (ls'.map T) none (some (-(1:Int)))=(ls'.take (ls'.length-1)).map T from cutV_init]
    have htk:(ls'.take (ls'.length-1)).length=ls'.length-1:=by rw [List.length_take];omega
    exact ⟨ls'.length-1,by omega,p7,ls'.take (ls'.length-1),htk.symm,s6.trans (same_upd hp7),upd_same,hw6.sub (List.take_sublist _ _),by omega,htr6.elim fun _ g=>g.take _,rfl⟩
   case' a2 =>
    have hcl:ls'≠[]->∃ f0,Tr f0 ls' f0:=fun _=>by
     obtain ⟨q0,g⟩:=htr6
     have e:=g.last ht
     have e2:t.drop 1=f0:=by
      rw [<- cutL_from (k:=1) (show 1<=t.length by omega)]
      by_cases z:cutL t (some 1) none=f0
      ·exact z
      ·exact absurd (by rw [show decide (cutL t (some 1) none=f0)=false from decide_eq_false z];rfl) h1
     rw [show q0=f0 from e.trans e2] at g
     exact ⟨f0,g⟩
   case' b =>
    have hcl:ls'≠[]->∃ f0,Tr f0 ls' f0:=fun z=>absurd (decide_eq_true (by have:=List.length_pos_iff.mpr z;omega)) h0
   all_goals
    refine ⟨_,rfl,p,_,rfl,.inl (SqL.of hd6),_,rfl,_,rfl,_,rfl,?_⟩
    rw [hml]
    refine ite2 (fun h2=>?_) (fun h2=>?_)
    ·refine ⟨_,rfl,_,rfl,n,rfl,⟨by omega,by show n*1<=sizeLine;omega⟩,(by show 1<=sizeLine;omega),fun p7 hp7=>?_⟩
     exact ⟨_,rfl,fin p7 [Wd.rep n [97]] _ (s6.trans (same_upd hp7)) upd_same (WL.one (rep_a n)) (by simp) (.inr (Nat.le_refl 1)) ⟨beg (Wd.rep n [97]),rfl,(rep_round 97 n).symm⟩⟩
    ·exact ⟨_,rfl,fin p ls' H6 s6 hd6 hw6 (fun z=>h2 (decide_eq_true (by rw [z];rfl))) (.inl hl6) (hcl fun z=>h2 (decide_eq_true (by rw [z];rfl)))⟩
def spWhole:Sp:=fun vs H Q _=>∃ x:Int,vs=[.int x,.int x]∧Q (.bl true) H
theorem ok__law_whole {f:Addr}{fd:FuncData}(F:Fun K "_law_whole" "_law_whole" s__law_whole f fd)(tt:Txt K mg ad):FnOk P w K mg base (CX1 P w) 1 f fd ["found", "due"] spWhole:=by
 refine F.okN sc__law_whole (fun vs H Q E h=>?_) (fun cdv A outer s H vs Q E hr h=>?_)
 ·obtain ⟨x,rfl,_⟩:=h
  rfl
 ·obtain ⟨x,rfl,q⟩:=h
  refine ⟨_,(pss_one (ps_ret (pe_and (pe_callB call_isinst (by rfl) tt.b_isinstance PyProof.Rows.boot_isinstance (pa_cons (pv 0) (pa_cons (pe_bltn (v:=.ty "int") (u:=.type "int") (by rfl) tt.b_int (by decide +kernel) rfl) pa_nil))) (pe_and (pe_not (pe_callB call_isinst (by rfl) tt.b_isinstance PyProof.Rows.boot_isinstance (pa_cons (pv 0) (pa_cons (pe_bltn (v:=.ty "bool") (u:=.type "bool") (by rfl) tt.b_bool (by decide +kernel) rfl) pa_nil)))) (pe_one (pe_cmpR op_eq_I (pv 0) (pv 1) (nomark _))))))),?_⟩
  (try rw [cxK2]);(try rw [cxK1])
  refine ⟨_,rfl,_,_,_,_,rfl,.int _,kit_same _,_,rfl,iteT ?_⟩
  refine ⟨_,rfl,_,_,_,_,rfl,.int _,kit_int_bool,_,rfl,_,rfl,iteT ?_⟩
  refine ⟨_,rfl,_,rfl,_,rfl,_,rfl,?_⟩
  rw [decide_eq_true rfl]
  exact q
def spNums (K:PySem.W.Frag):Sp:=fun vs H Q _=>∃ (a:Addr) (ns:List Int) (M:Nat),vs=[.ref a,.int (M:Nat)]∧SqL K H a (ns.map V.int)∧(1<=M∧M<=10 ^ 18)∧∀ (D:Addr) (qs:List Int) (H':Hp),Same H H'->H' D=some (.lst (qs.map V.int))->qs.Pairwise (· < ·)->(∀ z∈qs,0<=z∧z<(M:Int))->((M:Int)-1)∈qs->Q (.ref D) H'
theorem ok__law_numbers {f:Addr}{fd:FuncData}(F:Fun K "_law_numbers" "_law_numbers" s__law_numbers f fd)(tt:Txt K mg ad):FnOk P w K mg base (CX1 P w) 1 f fd ["script", "many"] (spNums K):=by
 refine F.okN sc__law_numbers (fun vs H Q E h=>?_) (fun cdv A outer s H vs Q E hr h=>?_)
 ·obtain ⟨a,ns,M,rfl,_⟩:=h
  rfl
 ·obtain ⟨a,ns,M,rfl,hS,⟨hM1,hM2⟩,q⟩:=h
  have hs:sizeLine=16777216:=sizeLine_eq
  have hM3:M<=1000000000000000000:=hM2
  refine ⟨_,(pss_cons (ps_set (i:=2) sc__law_numbers.nd rfl (Or.inl rfl) pe_int)
   (pss_cons (ps_set (i:=3) sc__law_numbers.nd rfl (Or.inl rfl) (pe_lst (pa_cons pe_int (pa_cons (pe_op op_sub (pv 1) pe_int) pa_nil))))
   (pss_cons (ps_for PassesOwn.never rfl (pi_list (pe_slice sl_list (pv 0) po_none (po_some pe_int))) (pg_name (i:=4) sc__law_numbers.nd rfl (Or.inl rfl)) (pss_cons (ps_set (i:=2) sc__law_numbers.nd rfl (Or.inl rfl) (pe_op op_mod (pe_op op_add (pe_op op_mul (pv 2) pe_int) (pv 4)) (pv 1)))
   (pss_one (ps_expr (pe_bm PySem.F.plainAttrs_list PySem.F.slot_list_append PySem.F.type_list_append mt_append (pv 3) (pa_cons (pv 2) pa_nil))))))
   (pss_one (ps_ret (pe_callB (call_sortedN rfl) (by rfl) tt.b_sorted PyProof.Rows.boot_sorted (pa_cons (pe_callTy (call_setN rfl) (by rfl) tt.b_set (by decide +kernel) (pa_cons (pv 3) pa_nil)) pa_nil))))))),?_⟩
  (try rw [cxK2]);(try rw [cxK1])
  refine ⟨_,rfl,_,_,rfl,rfl,(by show 2<=sizeLine;omega),fun D hD=>?_⟩
  have sD:=same_upd (o:=.lst [.int 0,.int ((M:Int)-1)]) hD
  obtain ⟨cs,hcs⟩:∃ cs:List Int,cutV (ns.map V.int) none (some (3:Int))=cs.map V.int:=⟨(ns.drop _).take _,by unfold cutV;rw [<- List.map_drop,<- List.map_take]⟩
  have hcl:cs.length<=3:=by
   have h1:=congrArg List.length hcs
   rw [List.length_map] at h1
   rw [<- h1]
   unfold cutV
   rw [List.length_take,HT.sIx_none,show HT.sIx (ns.map V.int).length (ns.map V.int).length (some (3:Int))=min 3 (ns.map V.int).length from HT.sIx_nat _ _ 3]
   omega
  refine ⟨_,rfl,_,rfl,a,_,rfl,sD.seq hS,fun p4 hp4=>?_⟩
  rw [hcs]
  have s4:=same_upd (o:=.lst (cs.map V.int)) hp4
  have hp4D:D≠p4:=fun z=>by rw [<- z,upd_same] at hp4;cases hp4
  have hpn:H p4=none:=by
   cases e:H p4 with
   | none=>rfl
   | some o=>rw [sD p4 o e] at hp4;cases hp4
  refine ⟨p4,rfl,⟨_,SqL.of upd_same⟩,?_⟩
  refine for_list (K:=K) (a:=p4) (xs:=cs.map V.int) (fun i σ G=>Same H G∧G p4=some (.lst (cs.map V.int))∧∃ (md:Int) (qs:List Int) (v4:Option V),(0<=md∧md<(M:Int))∧G D=some (.lst (qs.map V.int))∧qs.length<=2+i∧(∀ z∈qs,0<=z∧z<(M:Int))∧((M:Int)-1)∈qs∧σ=[some (.ref a),some (.int (M:Nat)),some (.int md),some (.ref D),v4])
   ⟨sD.trans s4,upd_same,0,[0,(M:Int)-1],none,⟨by omega,by omega⟩,s4 D _ upd_same,(by show 2<=2+0;omega),fun z hz=>by
    rcases List.mem_cons.mp hz with h | h
    ·omega
    ·have:=List.mem_singleton.mp h;omega,by simp,rfl⟩ (fun i σ G _ h=>SqL.of h.2.1) ?_ ?_
  ·rintro i y σ G hi ⟨sG,h4,md,qs,v4,hmd,hd,hql,hqs,hqm,rfl⟩
   have hil:i<cs.length:=by have:=(List.getElem?_eq_some_iff.mp hi).1;rw [List.length_map] at this;exact this
   obtain ⟨z,_,rfl⟩:=List.mem_map.mp (List.mem_of_getElem? hi)
   refine ⟨_,rfl,_,_,rfl,rfl,.inr ⟨by decide,by decide⟩,_,rfl,_,_,rfl,rfl,_,rfl,_,_,rfl,rfl,(by omega),?_⟩
   have z0:=Int.emod_nonneg (md*1000003+z) (show (M:Int)≠0 by omega)
   have z1:=Int.emod_lt_of_pos (md*1000003+z) (show (0:Int)<(M:Int) by omega)
   refine ⟨_,rfl,.inl ⟨rfl,_,SqL.of hd⟩,_,rfl,D,_,_,rfl,rfl,hd,(by rw [List.length_map];omega),?_⟩
   refine ⟨fun b o e=>by rw [upd_ne (ne_of_none e hD)];exact sG b o e,by rw [upd_ne hp4D.symm];exact h4,(md*1000003+z) % (M:Int),qs++[(md*1000003+z) % (M:Int)],_,⟨z0,z1⟩,by rw [upd_same,List.map_append];rfl,by rw [List.length_append];show _+1<=_;omega,fun y hy=>?_,List.mem_append_left _ hqm,rfl⟩
   rcases List.mem_append.mp hy with h | h
   ·exact hqs y h
   ·rw [List.mem_singleton.mp h];exact ⟨z0,z1⟩
  ·rintro σ G ⟨sG,h4,md,qs,v4,hmd,hd,hql,hqs,hqm,rfl⟩
   rw [List.length_map] at hql
   refine ⟨_,rfl,D,qs,rfl,SqL.of hd,by omega,fun S ms hSn hnd hml hmm=>?_⟩
   have s5:=same_upd (o:=SetN w S ms) hSn
   refine ⟨S,ms,rfl,upd_same,by omega,fun so E hE hp hw=>?_⟩
   have s6:=same_upd (o:=.lst (so.map V.int)) hE
   refine q E so _ (sG.trans (s5.trans s6)) upd_same ?_ (fun z hz=>hqs z ((hmm z).mp (hp.mem_iff.mp hz))) (hp.mem_iff.mpr ((hmm _).mpr hqm))
   exact List.Pairwise.imp₂ (fun a b h1 h2=>by omega) hw (hp.nodup_iff.mpr hnd)
def spAround:Sp:=fun vs H Q _=>∃ (t:List Nat) (n:Nat),vs=[T t,.int (n:Nat)]∧(t.length<=1000∧n<=1000)∧∀ (D:Addr) (H':Hp),H D=none->Same H H'->H' D=some (.lst ((Wd.ringW t n).map T))->Q (.ref D) H'
theorem ok__law_around {f:Addr}{fd:FuncData}(F:Fun K "_law_around" "_law_around" s__law_around f fd)(tt:Txt K mg ad):FnOk P w K mg base (CX1 P w) 1 f fd ["text", "length"] spAround:=by
 refine F.okN sc__law_around (fun vs H Q E h=>?_) (fun cdv A outer s H vs Q E hr h=>?_)
 ·obtain ⟨t,n,rfl,_⟩:=h
  rfl
 ·obtain ⟨t,n,rfl,⟨htl,hn⟩,q⟩:=h
  have hs:sizeLine=16777216:=sizeLine_eq
  refine ⟨_,(pss_cons (ps_set (i:=2) sc__law_around.nd rfl (Or.inl rfl) (pe_lst pa_nil))
   (pss_cons (ps_for PassesOwn.never rfl (pi_range1 (by rfl) tt.b_range (pa_cons (pe_callB call_len_T (by rfl) tt.b_len PySem.boot_len (pa_cons (pv 0) pa_nil)) pa_nil)) (pg_name (i:=3) sc__law_around.nd rfl (Or.inl rfl)) (pss_cons (ps_set (i:=4) sc__law_around.nd rfl (Or.inl rfl) (pe_strT [] (by decide +kernel)))
   (pss_cons (ps_for PassesOwn.never rfl (pi_range1 (by rfl) tt.b_range (pa_cons (pv 1) pa_nil)) (pg_name (i:=5) sc__law_around.nd rfl (Or.inl rfl)) (pss_one (ps_set (i:=4) sc__law_around.nd rfl (Or.inl rfl) (pe_op op_add_T (pv 4) (pe_ix ix_T (pv 0) (pe_op op_mod (pe_op op_add (pv 3) (pv 5)) (pe_callB call_len_T (by rfl) tt.b_len PySem.boot_len (pa_cons (pv 0) pa_nil))) (fun _ _=>rfl))))))
   (pss_one (ps_expr (pe_bm PySem.F.plainAttrs_list PySem.F.slot_list_append PySem.F.type_list_append mt_append (pv 2) (pa_cons (pv 4) pa_nil)))))))
   (pss_one (ps_ret (pv 2))))),?_⟩
  (try rw [cxK2]);(try rw [cxK1])
  refine ⟨(by show 0<=sizeLine;omega),fun D hD=>?_⟩
  have sD:=same_upd (o:=.lst []) hD
  refine ⟨_,rfl,_,rfl,(by omega),_,rfl,(by omega),(by omega),?_⟩
  rw [Int.toNat_natCast]
  refine for_range (fun k σ G=>Same H G∧G D=some (.lst (((List.range k).map fun i=>Wd.ringAt t n i).map T))∧∃ (v3 v4 v5:Option V),σ=[some (T t),some (.int (n:Nat)),some (.ref D),v3,v4,v5]) ⟨sD,upd_same,none,none,none,rfl⟩ ?_ ?_
  ·rintro k σ G hk ⟨sG,hd,v3,v4,v5,rfl⟩
   have hk:k<t.length:=hk
   refine ⟨_,rfl,_,rfl,by omega,by omega,?_⟩
   rw [Int.toNat_natCast]
   refine for_range (fun j σ G'=>G'=G∧∃ (v5:Option V),σ=[some (T t),some (.int (n:Nat)),some (.ref D),some (.int (0+(k:Int))),some (T (Wd.ringAt t j k)),v5]) ⟨rfl,v5,rfl⟩ ?_ ?_
   ·rintro j σ G' hj ⟨rfl,v5,rfl⟩
    have hj:j<n:=hj
    have hm:=Nat.mod_lt (k+j) (show 0<t.length by omega)
    have hget:t[(k+j) % t.length]?=some (t.getD ((k+j) % t.length) 0):=by rw [List.getD_eq_getElem?_getD,List.getElem?_eq_getElem hm];rfl
    refine ⟨_,rfl,_,rfl,_,rfl,_,rfl,_,_,rfl,rfl,_,rfl,_,rfl,(by omega),_,_,rfl,rfl,(by omega),_,rfl,_,rfl,(by omega),t.getD ((k+j) % t.length) 0,?_,_,rfl,_,rfl,?_,rfl,some (.int (0+(j:Int))),?_⟩
    ·rw [show (0+(k:Int)+(0+(j:Int))) % ((t.length:Nat):Int)=(((k+j) % t.length:Nat):Int) by rw [Int.natCast_emod];congr 1;omega]
     exact atI_nat hget
    ·have:(Wd.ringAt t j k).length=j:=by unfold Wd.ringAt;rw [List.length_map,List.length_range]
     rw [this]
     show _+1<=sizeLine
     omega
    ·have e:Wd.ringAt t (j+1) k=Wd.ringAt t j k++[t.getD ((k+j) % t.length) 0]:=by
      unfold Wd.ringAt
      rw [List.range_succ,List.map_append]
      rfl
     rw [e]
     rfl
   ·rintro σ G' ⟨rfl,v5,rfl⟩
    refine ⟨_,rfl,.inl ⟨rfl,_,SqL.of hd⟩,_,rfl,D,_,_,rfl,rfl,hd,(by rw [List.length_map,List.length_map,List.length_range];omega),?_⟩
    refine ⟨fun b o e=>by rw [upd_ne (ne_of_none e hD)];exact sG b o e,?_,_,_,_,rfl⟩
    rw [upd_same,List.range_succ,List.map_append,List.map_append]
    rfl
  ·rintro σ G ⟨sG,hd,v3,v4,v5,rfl⟩
   exact ⟨_,rfl,q D G hD sG hd⟩
def spIsR (K:PySem.W.Frag):Sp:=fun vs H Q _=>∃ (a:Addr) (ls:List (List Nat)) (t m0:List Nat) (n:Nat),vs=[.ref a,T t]∧SqL K H a (ls.map T)∧(ls≠[]∧ls.length<=60∧n<=8∧(∀ w∈ls,w.length=n))∧t.length=ls.length∧(Wd.ringW t n).Perm ls∧Wd.ringAt t n 0=m0∧(m0∈ls∧∀ y∈ls,¬ y<m0)∧∀ (H':Hp),Same H H'->Q (.bl true) H'
theorem ok__law_is_ring {f:Addr}{fd:FuncData}(F:Fun K "_law_is_ring" "_law_is_ring" s__law_is_ring f fd)(tt:Txt K mg ad)(C__law_around:Cal P w K mg base (CX1 P w) "_law_around" 1 ["text", "length"] spAround):FnOk P w K mg base (CX1 P w) 2 f fd ["words", "text"] (spIsR K):=by
 refine F.okN sc__law_is_ring (fun vs H Q E h=>?_) (fun cdv A outer s H vs Q E hr h=>?_)
 ·obtain ⟨a,ls,t,m0,n,rfl,_⟩:=h
  rfl
 ·obtain ⟨a,ls,t,m0,n,rfl,hS,⟨hne,hl,hn,hlen⟩,htl,hp,h0,⟨hm,hmin⟩,q⟩:=h
  have hs:sizeLine=16777216:=sizeLine_eq
  have hu:=Nat.lt_of_succ_lt (hu_of hr)
  have hpos:=List.length_pos_iff.mpr hne
  refine ⟨_,(pss_cons (ps_if (PW.pt (pw_or (pt_not (pt_val (pe_callB call_isinst (by rfl) tt.b_isinstance PyProof.Rows.boot_isinstance (pa_cons (pv 1) (pa_cons (pe_bltn (v:=.ty "str") (u:=.type "str") (by rfl) tt.b_str (by decide +kernel) rfl) pa_nil))))) (pw_or1 (pt_cmpR op_ne_I (pe_callB call_len_T (by rfl) tt.b_len PySem.boot_len (pa_cons (pv 1) pa_nil)) (pe_callB call_len_seq (by rfl) tt.b_len PySem.boot_len (pa_cons (pv 0) pa_nil)) (nomark _))))) (pss_one (ps_ret pe_bl)) pss_nil)
   (pss_cons (ps_set (i:=2) sc__law_is_ring.nd rfl (Or.inl rfl) (pe_cal C__law_around hr pass1 (pa_cons (pv 1) (pa_cons (pe_callB call_len_T (by rfl) tt.b_len PySem.boot_len (pa_cons (pe_ix ix_list (pv 0) pe_int (fun _ _=>rfl)) pa_nil)) pa_nil))))
   (pss_one (ps_ret (pe_and (pe_cmpR (op_eq_LT hu) (pe_callB call_sortedT (by rfl) tt.b_sorted PyProof.Rows.boot_sorted (pa_cons (pv 2) pa_nil)) (pe_callB call_sortedT (by rfl) tt.b_sorted PyProof.Rows.boot_sorted (pa_cons (pv 0) pa_nil)) (nomark _)) (pe_one (pe_cmpR op_eq_T (pe_ix ix_list (pv 2) pe_int (fun _ _=>rfl)) (pe_callB (call_minT rfl) (by rfl) tt.b_min PyProof.Rows.boot_min (pa_cons (pv 0) pa_nil)) (nomark _)))))))),?_⟩
  (try rw [cxK2]);(try rw [cxK1])
  refine ⟨_,rfl,_,_,_,_,rfl,.str _,kit_same _,_,rfl,iteF ?_⟩
  refine ⟨_,rfl,_,rfl,(by omega),_,rfl,a,_,rfl,.inl hS,_,rfl,_,rfl,_,rfl,?_⟩
  rw [List.length_map]
  refine itN (by rw [decide_eq_true (by omega)];exact Bool.false_ne_true) ?_
  obtain ⟨w0,hw0⟩:∃ w0,ls[0]?=some w0:=⟨ls[0]'hpos,List.getElem?_eq_getElem _⟩
  have hw0l:=hlen w0 (List.mem_of_getElem? hw0)
  refine ⟨_,rfl,_,rfl,a,_,_,_,rfl,rfl,hS,atI_nat (j:=0) (by rw [List.getElem?_map,hw0];rfl),_,rfl,(by omega),t,w0.length,rfl,⟨by omega,by omega⟩,fun D G1 hD s1 hd=>?_⟩
  rw [hw0l] at hd
  refine ⟨_,rfl,D,Wd.ringW t n,rfl,SqL.of hd,(by rw [Wd.ringW_len];omega),fun so1 E1 hE1 hp1 hw1=>?_⟩
  have s2:=same_upd (o:=.lst (so1.map T)) hE1
  have s12:=s1.trans s2
  refine ⟨_,rfl,a,ls,rfl,s12.seq hS,(by omega),fun so2 E2 hE2 hp2 hw2=>?_⟩
  have s3:=same_upd (o:=.lst (so2.map T)) hE2
  have s13:=s12.trans s3
  obtain rfl:so1=so2:=Wd.sorted_same (hp1.trans (hp.trans hp2.symm)) hw1 hw2
  refine ⟨E1,E2,so1,so1,rfl,rfl,SqL.of (s3 E1 _ upd_same),SqL.of upd_same,true,(by rw [decide_eq_true rfl]),?_⟩
  refine iteT ?_
  refine ⟨_,rfl,D,_,_,_,rfl,rfl,SqL.of ((s2.trans s3) D _ hd),atI_nat (j:=0) (by rw [List.getElem?_map,Wd.ringW_get (by omega)];rfl),_,rfl,a,ls,rfl,s13.seq hS,hne,fun m1 hm1 hmin1=>?_⟩
  obtain rfl:m1=m0:=Std.Trichotomous.trichotomous m1 m0 (hmin m1 hm1) (hmin1 m0 hm)
  refine ⟨_,rfl,_,rfl,?_⟩
  rw [decide_eq_true (show Wd.ringAt t n 0=m1 from h0)]
  exact q _ s13
theorem WebOk.perm {ls ms:List (List Nat)}{n:Nat}(h:WebOk ls n)(p:ms.Perm ls):WebOk ms n:=⟨fun z=>h.1 (List.length_eq_zero_iff.mp (by rw [<- p.length_eq,z];rfl)),by rw [p.length_eq];exact h.2.1,h.2.2.1,fun x hx=>h.2.2.2.1 x (p.mem_iff.mp hx),p.nodup_iff.mpr h.2.2.2.2⟩
theorem eN_fct:∀ {k:Nat} {E:List (List Nat)} {a b:List Nat},E.Nodup->E.length=k->(Dt.ordN k E a b).length<=Dt.fct k
 | 0,E,a,b,_,_=>by
  show (if a=b then [[]] else ([]:List (List (List Nat)))).length<=1
  split <;> simp
 | k+1,E,a,b,hn,h=>by
  show ((Dt.og E a).flatMap fun w=>(Dt.ordN k (Dt.rm E w) (Wd.fin w) b).map fun us=>w::us).length<=(k+1)*Dt.fct k
  have hog:(Dt.og E a).length<=k+1:=Nat.le_trans (List.length_filter_le ..) (by omega)
  have key:∀ l:List (List Nat),(∀ w∈l,w∈E)->(l.flatMap fun w=>(Dt.ordN k (Dt.rm E w) (Wd.fin w) b).map fun us=>w::us).length<=l.length*Dt.fct k:=fun l=>by
   induction l with
   | nil=>intro _;simp
   | cons w l ih =>
    intro hl
    rw [List.flatMap_cons,List.length_append,List.length_map,List.length_cons,Nat.add_mul,Nat.one_mul,Nat.add_comm]
    have:=Dt.rm_len hn (hl w (List.mem_cons_self ..))
    exact Nat.add_le_add (ih fun x hx=>hl x (List.mem_cons_of_mem _ hx)) (eN_fct (Dt.rm_nd hn) (by omega))
  exact Nat.le_trans (key _ fun w hw=>(Dt.mem_og.mp hw).1) (Nat.mul_le_mul_right _ hog)
theorem firstAt_ex {a:List Nat}:∀ {ls:List (List Nat)},a∈ls->∃ j:Nat,ls[j]?=some a∧∀ i:Nat,i<j->ls[i]?≠some a
 | x::ls,h=>by
  by_cases e:x=a
  ·exact ⟨0,by rw [e];rfl,fun i hi=>absurd hi (Nat.not_lt_zero _)⟩
  ·have h':a∈ls:=by
    rcases List.mem_cons.mp h with z | z
    ·exact absurd z.symm e
    ·exact z
   obtain ⟨j,h1,h2⟩:=firstAt_ex h'
   refine ⟨j+1,by rw [List.getElem?_cons_succ];exact h1,fun i hi=>?_⟩
   cases i with
   | zero=>rw [List.getElem?_cons_zero];exact fun z=>e (Option.some.inj z)
   | succ i=>rw [List.getElem?_cons_succ];exact h2 i (by omega)
def spLaw (K:PySem.W.Frag):Sp:=fun vs H Q _=>∃ (a:Addr) (ns:List Int),vs=[.ref a]∧SqL K H a (ns.map V.int)∧ns.length<=63∧∀ H',Q (.bl true) H'
theorem ok_law {f:Addr}{fd:FuncData}(F:Fun K "law" "law" s_law f fd)(tt:Txt K mg ad)(C__law_ring_words:Cal P w K mg base (CX1 P w) "_law_ring_words" 2 ["script", "at", "most"] (spRingWd K))(C_Web_init:Cam P w K mg base (CX1 P w) "Web" ad.Web 5 ["self", "words"] (spWebI K ad.Web))(C_ring_count:Cal P w K mg base (CX1 P w) "ring_count" 6 ["web"] (spRingC ad.Web))(C__law_numbers:Cal P w K mg base (CX1 P w) "_law_numbers" 1 ["script", "many"] (spNums K))
  (C_ring_by:Cal P w K mg base (CX1 P w) "ring_by" 7 ["web", "number"] (spRingBy ad.Web ad)) (C__law_is_ring:Cal P w K mg base (CX1 P w) "_law_is_ring" 2 ["words", "text"] (spIsR K)) (C__law_whole:Cal P w K mg base (CX1 P w) "_law_whole" 1 ["found", "due"] spWhole) (C_ring_number:Cal P w K mg base (CX1 P w) "ring_number" 7 ["web", "ring"] (spRingN ad.Web ad)) :
  FnOk P w K mg base (CX1 P w) 8 f fd ["script"] (spLaw K):=by
 refine F.okN sc_law (fun vs H Q E h=>?_) (fun cdv A outer s H vs Q E hr h=>?_)
 ·obtain ⟨a,ns,rfl,_⟩:=h
  rfl
 ·obtain ⟨a,ns,rfl,hS,hlen,q⟩:=h
  have hs:sizeLine=16777216:=sizeLine_eq
  have hu:=Nat.lt_of_succ_lt (hu_of hr)
  refine ⟨_,(pss_cons (ps_set (i:=1) sc_law.nd rfl (Or.inl rfl) (pe_cal C__law_ring_words hr pass1 (pa_cons (pv 0) (pa_cons pe_int (pa_cons pe_int pa_nil)))))
   (pss_cons (ps_set (i:=2) sc_law.nd rfl (Or.inl rfl) (pe_mak C_Web_init hr pass1 (pa_cons (pv 1) pa_nil)))
   (pss_cons (ps_set (i:=3) sc_law.nd rfl (Or.inl rfl) (pe_cal C_ring_count hr pass1 (pa_cons (pv 2) pa_nil)))
   (pss_cons (ps_set (i:=4) sc_law.nd rfl (Or.inl rfl) (pe_strT [] (by decide +kernel)))
   (pss_cons (ps_for PassesOwn.never rfl (pi_list (pe_cal C__law_numbers hr pass1 (pa_cons (pv 0) (pa_cons (pv 3) pa_nil)))) (pg_name (i:=5) sc_law.nd rfl (Or.inl rfl)) (pss_cons (ps_set (i:=6) sc_law.nd rfl (Or.inl rfl) (pe_cal C_ring_by hr pass1 (pa_cons (pv 2) (pa_cons (pv 5) pa_nil))))
   (pss_cons (ps_if (PW.pt (pw_or (pt_not (pt_val (pe_cal C__law_is_ring hr pass1 (pa_cons (pv 1) (pa_cons (pv 6) pa_nil))))) (pw_or (pt_not (pt_val (pe_cal C__law_whole hr pass1 (pa_cons (pe_cal C_ring_number hr pass1 (pa_cons (pv 2) (pa_cons (pv 6) pa_nil))) (pa_cons (pv 5) pa_nil))))) (pw_or1 (pt_cmpR op_ge_T (pv 4) (pv 6) (nomark _)))))) (pss_one (ps_ret pe_bl)) pss_nil)
   (pss_one (ps_set (i:=4) sc_law.nd rfl (Or.inl rfl) (pv 6))))))
   (pss_cons (ps_set (i:=7) sc_law.nd rfl (Or.inl rfl) (pe_bm PySem.F.plainAttrs_list PySem.F.slot_list_index PySem.F.type_list_index mt_index (pv 1) (pa_cons (pe_callB (call_minT rfl) (by rfl) tt.b_min PyProof.Rows.boot_min (pa_cons (pv 1) pa_nil)) pa_nil)))
   (pss_cons (ps_set (i:=8) sc_law.nd rfl (Or.inl rfl) (pe_bm PySem.F.plainAttrs_str PySem.F.slot_str_join PySem.F.type_str_join mt_join (pe_strT [] (by decide +kernel)) (pa_cons (pe_comp cs_law_0 rfl (pi_list (pe_op op_catL (pe_slice sl_list (pv 1) (po_some (pv 7)) po_none) (pe_slice sl_list (pv 1) po_none (po_some (pv 7))))) (fun cl C s' H' fp=>(pe_ix ix_T (pv 0) pe_int (fun _ _=>rfl)))) pa_nil)))
   (pss_cons (ps_set (i:=5) sc_law.nd rfl (Or.inl rfl) (pe_cal C_ring_number hr pass1 (pa_cons (pv 2) (pa_cons (pv 8) pa_nil))))
   (pss_cons (ps_if (PW.pt (pw_or (pt_not (pt_val (pe_cal C__law_whole hr pass1 (pa_cons (pv 5) (pa_cons (pv 5) pa_nil))))) (pw_or (pt_cmpR op_lt (pv 5) pe_int (nomark _)) (pw_or1 (pt_cmpR op_ge (pv 5) (pv 3) (nomark _)))))) (pss_one (ps_ret pe_bl)) pss_nil)
   (pss_one (ps_ret (pe_cmpR op_eq_T (pe_cal C_ring_by hr pass1 (pa_cons (pv 2) (pa_cons (pv 5) pa_nil))) (pv 8) (nomark _))))))))))))),?_⟩
  (try rw [cxK2]);(try rw [cxK1])
  refine ⟨_,rfl,a,ns,10,rfl,by decide,hS,fun D ls n H1 s1 hd hwl hn hne hl10 htr=>?_⟩
  have hll:ls.length<=10:=by omega
  have hok:WebOk ls n:=⟨hne,by omega,⟨by omega,by omega⟩,hwl.1,hwl.2⟩
  refine ⟨_,rfl,?_⟩
  intro x dx nx ndx nex
  have s2:Same H1 (upd (upd H1 dx (.own x)) x (.ins ad.Web dx [])):=fun b o e=>by
   rw [upd_ne (ne_of_none e nx),upd_ne (ne_of_none e ndx)]
   exact e
  refine ⟨x,dx,D,ls,n,rfl,upd_same,SqL.of (s2 D _ hd),hok,fun tp ms H2 hp2 hw2 k2 hx2 ht2=>⟨rfl,?_⟩⟩
  have s2:Same H1 H2:=fun b o e=>k2 b o (s2 b o e) (ne_of_none e nx)
  have hW:WebAt ad.Web H2 x tp n ms:=⟨⟨dx,hx2⟩,ht2⟩
  have hokm:=hok.perm hp2
  have hd2:=s2 D _ hd
  obtain ⟨m0,hm0⟩:∃ m0,ms[0]?=some m0:=⟨ms[0]'(List.length_pos_iff.mpr hokm.1),List.getElem?_eq_getElem _⟩
  have hm0m:=List.mem_of_getElem? hm0
  have hmsn:=hokm.2.2.2.2
  have hmsl:∀ w∈ms,w.length=n:=fun w hw=>(hokm.2.2.2.1 w hw).1
  obtain ⟨hms0,hdr⟩:=drop_rm hmsn hm0
  have hrl:=Dt.rm_len hmsn hm0m
  have hmin:∀ y∈ls,¬ y<m0:=fun y hy=>by
   have hy:=hp2.mem_iff.mpr hy
   rw [hms0] at hy hw2
   rcases List.mem_cons.mp hy with z | z
   ·rw [z];exact List.lt_irrefl _
   ·exact (List.pairwise_cons.mp hw2).1 y z
  have hm0l:m0∈ls:=hp2.mem_iff.mp hm0m
  have hrs:(Dt.rm ms m0).Pairwise (fun a b=>¬ b<a):=hw2.filter _
  have hrn:=Dt.rm_nd (w:=m0) hmsn
  obtain ⟨f0,htr⟩:=htr
  obtain ⟨jj,hj1,hj2⟩:=firstAt_ex hm0l
  have hjl:jj<ls.length:=(List.getElem?_eq_some_iff.mp hj1).1
  have hturn:∃ ws,ls.drop jj++ls.take jj=m0::ws∧(m0::ws).Perm ms∧Hg.Tr Wd.beg Wd.fin (Wd.beg m0) (m0::ws) (Wd.beg m0):=by
   have hdj:ls.drop jj=m0::ls.drop (jj+1):=by
    obtain ⟨i1,i2⟩:=List.getElem?_eq_some_iff.mp hj1
    rw [List.drop_eq_getElem_cons i1,i2]
   refine ⟨ls.drop (jj+1)++ls.take jj,by rw [hdj];rfl,?_,?_⟩
   ·show (m0::ls.drop (jj+1)++ls.take jj).Perm ms
    rw [<- hdj]
    refine (List.perm_append_comm).trans ?_
    rw [List.take_append_drop]
    exact hp2.symm
   ·have h1:Hg.Tr Wd.beg Wd.fin f0 (ls.take jj++ls.drop jj) f0:=by rw [List.take_append_drop];exact htr
    obtain ⟨r,h2,h3⟩:=Dt.tr_app.mp h1
    rw [hdj] at h3
    have hr:Wd.beg m0=r:=h3.1
    subst hr
    exact ⟨rfl,Dt.tr_app.mpr ⟨f0,h3.2,h2⟩⟩
  obtain ⟨ws,hws,hwp,hwt⟩:=hturn
  have hwr:ws.Perm (Dt.rm ms m0):=(hwp.trans (Dt.rm_perm hmsn hm0m)).cons_inv
  have hcpos:0<Dt.eN (Dt.rm ms m0) (Wd.fin m0) (Wd.beg m0):=Dt.eN_pos hrn hwr hwt.2
  have hcle:Dt.eN (Dt.rm ms m0) (Wd.fin m0) (Wd.beg m0)<=10 ^ 18:=by
   have h1:=eN_fct (a:=Wd.fin m0) (b:=Wd.beg m0) hrn rfl
   have h2:∀ k,k<=9->Dt.fct k<=10 ^ 18:=fun k hk=>by
    have h3:Dt.fct k<=64 ^ k:=Dt.fct_le (by omega)
    have h4:64 ^ k<=64 ^ 9:=Nat.pow_le_pow_right (by decide) hk
    have h5:(64:Nat) ^ 9<=10 ^ 18:=by decide
    exact Nat.le_trans h3 (Nat.le_trans h4 h5)
   have hml:=hp2.length_eq
   exact Nat.le_trans h1 (h2 _ (by omega))
  have hfull:∀ us:List (List Nat),us.Perm (Dt.rm ms m0)->∀ w∈m0::us,w.length=n:=fun us hp w hw=>by
   rcases List.mem_cons.mp hw with z | z
   ·rw [z];exact hmsl m0 hm0m
   ·exact hmsl w (Dt.mem_rm.mp (hp.mem_iff.mp z)).1
  refine ⟨_,rfl,x,tp,n,ms,m0,rfl,hW,hokm,hm0,fun H3 s3=>?_⟩
  generalize hcn:Dt.eN (Dt.rm ms m0) (Wd.fin m0) (Wd.beg m0)=M at hcpos hcle
  refine ⟨_,rfl,_,rfl,a,ns,M,rfl,(s1.trans (s2.trans s3)).seq hS,⟨hcpos,hcle⟩,fun D4 qs H4 s4 hd4 hqp hqb _=>?_⟩
  have s24:=s3.trans s4
  refine ⟨D4,rfl,⟨_,SqL.of hd4⟩,?_⟩
  have hML:M=(Dt.ordN (Dt.rm ms m0).length (Dt.rm ms m0) (Wd.fin m0) (Wd.beg m0)).length:=hcn.symm
  refine for_list (K:=K) (a:=D4) (xs:=qs.map V.int) (fun i σ G=>Same H2 G∧G D4=some (.lst (qs.map V.int))∧∃ (bf:List Nat) (v5 v6:Option V),(∀ (z:Int) (j:Nat) (us:List (List Nat)),qs[i]?=some z->z=(j:Int)->(Dt.ordN (Dt.rm ms m0).length (Dt.rm ms m0) (Wd.fin m0) (Wd.beg m0))[j]?=some us->bf<Dt.rT m0 us)∧σ=[some (.ref a),some (.ref D),some (.ref x),some (.int (M:Nat)),some (T bf),v5,v6,none,none]) ⟨s24,hd4,[],none,none,fun z j us _ _ hus=>?first,rfl⟩ (fun i σ G _ h=>SqL.of h.2.1) ?_ ?_
  case first =>
   have h1:=Dt.rT_len (m0:=m0) (us:=us) (n:=n) (by omega) (hfull us (Dt.ord_of hrn hus).1)
   cases h2:Dt.rT m0 us with
   | nil=>rw [h2] at h1;simp at h1
   | cons c r=>exact List.nil_lt_cons c r
  ·rintro i y σ G hi ⟨sG,hdG,bf,v5,v6,hbf,rfl⟩
   obtain ⟨z,hzi,rfl⟩:∃ z,qs[i]?=some z∧V.int z=y:=by rw [List.getElem?_map] at hi;exact Option.map_eq_some_iff.mp hi
   have hzb:=hqb z (List.mem_of_getElem? hzi)
   obtain ⟨j,hj⟩:∃ j:Nat,z=(j:Int):=⟨z.toNat,by omega⟩
   subst hj
   have hjM:j<M:=by omega
   obtain ⟨us,hus⟩:∃ us,(Dt.ordN (Dt.rm ms m0).length (Dt.rm ms m0) (Wd.fin m0) (Wd.beg m0))[j]?=some us:=⟨_,List.getElem?_eq_getElem (by rw [<- hML];exact hjM)⟩
   obtain ⟨hup,hut⟩:=Dt.ord_of hrn hus
   have hfl:=hfull us hup
   have htt:Hg.Tr Wd.beg Wd.fin (Wd.beg m0) (m0::us) (Wd.beg m0):=⟨rfl,hut⟩
   have hwin:=Dt.rT_win (by omega) hfl htt
   have htl:=Dt.rT_len (by omega) hfl
   have hlt:=hbf _ j us hzi rfl hus
   have hpm:(m0::us).Perm ms:=(hup.cons m0).trans (Dt.rm_perm hmsn hm0m).symm
   have hul:=hpm.length_eq
   rw [List.length_cons] at hul
   have hml:=hp2.length_eq
   have hat0:Wd.ringAt (Dt.rT m0 us) n 0=m0:=by
    have h1:(Wd.ringW (Dt.rT m0 us) n)[0]?=some (Wd.ringAt (Dt.rT m0 us) n 0):=Wd.ringW_get (by omega)
    rw [hwin] at h1
    exact (Option.some.inj h1).symm
   refine ⟨_,rfl,_,rfl,x,tp,n,ms,m0,(j:Int),rfl,hW.on sG,hokm,hm0,fun z=>absurd ⟨by omega,by rw [hcn];omega⟩ z,fun j2 us2 e2 hus2 G1 s5=>?_⟩
   obtain rfl:j=j2:=by omega
   obtain rfl:us2=us:=by rw [hus] at hus2;exact (Option.some.inj hus2).symm
   have sG1:=sG.trans s5
   refine ⟨_,rfl,_,rfl,D,ls,Dt.rT m0 us2,m0,n,rfl,SqL.of (sG1 D _ hd2),⟨hne,by omega,by omega,fun w hw=>(hwl.1 w hw).1⟩,by omega,by rw [hwin];exact hpm.trans hp2,hat0,⟨hm0l,hmin⟩,fun G2 s6=>?_⟩
   refine ⟨_,rfl,iteF ?_⟩
   have sG2:=sG1.trans s6
   refine ⟨_,rfl,_,rfl,x,tp,n,ms,m0,Dt.rT m0 us2,rfl,hW.on sG2,hokm,hw2,by omega,hm0,fun z=>absurd ⟨by show (Wd.ringW _ n).Perm ms;rw [hwin];exact hpm,hat0⟩ z,fun us3 _ hus3 G3 s7=>?_⟩
   obtain rfl:us2=us3:=by rw [hwin] at hus3;exact (List.cons.inj hus3).2
   rw [Dt.rk_of hrn hrs hus]
   refine ⟨_,rfl,_,rfl,_,rfl,?_⟩
   refine iteF ?_
   refine ⟨_,rfl,_,rfl,_,rfl,_,rfl,_,rfl,?_⟩
   refine itN (by rw [decide_eq_true hlt];exact Bool.false_ne_true) ?_
   have sG3:=sG2.trans s7
   refine ⟨_,rfl,sG3,(s5.trans (s6.trans s7)) D4 _ hdG,Dt.rT m0 us2,_,_,fun z' j' us' hz' hj' hus'=>?_,rfl⟩
   subst hj'
   have hjj:j<j':=by
    have h1:=List.pairwise_iff_getElem.mp hqp i (i+1) (List.getElem?_eq_some_iff.mp hzi).1 (List.getElem?_eq_some_iff.mp hz').1 (by omega)
    rw [(List.getElem?_eq_some_iff.mp hzi).2,(List.getElem?_eq_some_iff.mp hz').2] at h1
    omega
   obtain ⟨hup',hut'⟩:=Dt.ord_of hrn hus'
   refine Dt.rT_lt (by omega) hfl (hfull us' hup') htt ⟨rfl,hut'⟩ (by rw [hup.length_eq,hup'.length_eq]) ?_
   have h2:=List.pairwise_iff_getElem.mp (Dt.ord_lt (a:=Wd.fin m0) (b:=Wd.beg m0) rfl hrn hrs fun w hw=>by have:=hmsl w (Dt.mem_rm.mp hw).1;omega) j j' (List.getElem?_eq_some_iff.mp hus).1 (List.getElem?_eq_some_iff.mp hus').1 hjj
   rw [(List.getElem?_eq_some_iff.mp hus).2,(List.getElem?_eq_some_iff.mp hus').2] at h2
   exact h2
  ·rintro σ G ⟨sG,hdG,bf,v5,v6,hbf,rfl⟩
   have hml:=hp2.length_eq
   refine ⟨_,rfl,.inl ⟨rfl,_,SqL.of (sG D _ hd2)⟩,_,rfl,D,ls,rfl,SqL.of (sG D _ hd2),hne,fun m1 hm1 hmin1=>?_⟩
   obtain rfl:m1=m0:=Std.Trichotomous.trichotomous m1 m0 (hmin m1 hm1) (hmin1 m0 hm0l)
   refine ⟨D,ls,m1,jj,rfl,rfl,SqL.of (sG D _ hd2),hj1,hj2,?_⟩
   have e1:cutV (ls.map T) (some ((jj:Nat):Int)) none=(ls.drop jj).map T:=cutT_from (by omega)
   have e2:cutV (ls.map T) none (some ((jj:Nat):Int))=(ls.take jj).map T:=by
    unfold cutV
    rw [HT.sIx_nat,HT.sIx_none,List.length_map,Nat.min_eq_left (by omega),List.drop_zero,Nat.sub_zero,List.map_take]
   refine ⟨rfl,_,rfl,_,rfl,_,rfl,D,_,rfl,SqL.of (sG D _ hd2),fun p5 hp5=>?_⟩
   rw [e1]
   have s5:=same_upd (o:=.lst ((ls.drop jj).map T)) hp5
   refine ⟨_,rfl,_,rfl,_,rfl,D,_,rfl,SqL.of (s5 D _ (sG D _ hd2)),fun p6 hp6=>?_⟩
   rw [e2]
   have s6:=same_upd (o:=.lst ((ls.take jj).map T)) hp6
   refine ⟨p5,p6,_,_,rfl,rfl,SqL.of (s6 p5 _ upd_same),SqL.of upd_same,(by rw [List.length_map,List.length_map,List.length_drop,List.length_take];omega),fun p7 hp7=>?_⟩
   have s7:=same_upd (o:=.lst ((ls.drop jj).map T++(ls.take jj).map T)) hp7
   have h7:SqL K (upd (upd (upd G p5 (.lst ((ls.drop jj).map T))) p6 (.lst ((ls.take jj).map T))) p7 (.lst ((ls.drop jj).map T++(ls.take jj).map T))) p7 ((m1::ws).map T):=SqL.of (by rw [upd_same,<- List.map_append,hws])
   have s57:=s5.trans (s6.trans s7)
   refine ⟨p7,rfl,⟨_,h7⟩,?_⟩
   have hfl:=hfull ws hwr
   refine compG (fun v=>T [Wd.hd (unT v)]) (reads_list h7) (by rw [List.length_map];have:=hwp.length_eq;omega) (fun v G2 hv s8 N hN=>?_) fun D8 G8 hD8 s8 hd8=>?_
   ·obtain ⟨l,hl,rfl⟩:=List.mem_map.mp hv
    have hll:=hfl l hl
    have z:=hN G2 (Same.refl _)
    rw [unT_T] at z
    refine ⟨_,rfl,_,rfl,_,rfl,(by omega),Wd.hd l,atI_nat (j:=0) ?_,z⟩
    unfold Wd.hd
    rw [List.getD_eq_getElem?_getD,List.getElem?_eq_getElem (show 0<l.length by omega)]
    rfl
   rw [map_unT (f:=fun l=>T [Wd.hd l]),show (m1::ws).map (fun l=>T [Wd.hd l])=((m1::ws).map fun l=>[Wd.hd l]).map T by rw [List.map_map];rfl] at hd8
   have hflat:((m1::ws).map fun l=>[Wd.hd l]).flatten=(m1::ws).map Wd.hd:=by
    generalize m1::ws=l
    induction l with
    | nil=>rfl
    | cons y l ih=>rw [List.map_cons,List.flatten_cons,ih];rfl
   refine ⟨rfl,D8,_,rfl,SqL.of hd8,(by rw [hflat,List.length_map];have:=hwp.length_eq;omega),?_⟩
   rw [hflat]
   have hwin:Wd.ringW ((m1::ws).map Wd.hd) n=m1::ws:=Wd.ring_tr (by omega) hfl hwt
   have hmt:(m1::ws).map Wd.hd=Dt.rT m1 ws:=by
    obtain ⟨us,h1,h2,_⟩:=Dt.ring_is (t:=(m1::ws).map Wd.hd) (ms:=ms) (m0:=m1) (by omega) hmsl (by rw [hwin];exact hwp) hokm.1 (by
     have h1:(Wd.ringW ((m1::ws).map Wd.hd) n)[0]?=some (Wd.ringAt ((m1::ws).map Wd.hd) n 0):=Wd.ringW_get (by rw [List.length_map];exact Nat.succ_pos _)
     rw [hwin] at h1
     exact (Option.some.inj h1).symm)
    rw [hwin] at h1
    rw [<- (List.cons.inj h1).2] at h2
    exact h2
   rw [hmt] at hwin ⊢
   have htl:=Dt.rT_len (by omega) hfl
   have hwl2:=hwp.length_eq
   rw [List.length_cons] at hwl2
   have hat0:Wd.ringAt (Dt.rT m1 ws) n 0=m1:=by
    have h1:(Wd.ringW (Dt.rT m1 ws) n)[0]?=some (Wd.ringAt (Dt.rT m1 ws) n 0):=Wd.ringW_get (by omega)
    rw [hwin] at h1
    exact (Option.some.inj h1).symm
   have sG8:=sG.trans (s57.trans s8)
   have hrkl:=Dt.rk_lt hrn hrs hwr hwt.2
   have hrkg:=Dt.rk_get rfl hrn hrs hwr hwt.2
   refine ⟨_,rfl,_,rfl,x,tp,n,ms,m1,Dt.rT m1 ws,rfl,hW.on sG8,hokm,hw2,by omega,hm0,fun z=>absurd ⟨by show (Wd.ringW _ n).Perm ms;rw [hwin];exact hwp,hat0⟩ z,fun us3 _ hus3 G9 s9=>?_⟩
   obtain rfl:ws=us3:=by rw [hwin] at hus3;exact (List.cons.inj hus3).2
   refine ⟨_,rfl,_,rfl,_,rfl,_,rfl,?_⟩
   refine iteF ?_
   refine ⟨_,rfl,_,_,rfl,rfl,_,rfl,?_⟩
   refine itN (fun z=>by have:=of_decide_eq_true z;omega) ?_
   refine ⟨_,rfl,_,rfl,_,_,rfl,rfl,_,rfl,?_⟩
   refine itN (fun z=>by have:=of_decide_eq_true z;omega) ?_
   have sG9:=sG8.trans s9
   refine ⟨_,rfl,_,rfl,x,tp,n,ms,m1,_,rfl,hW.on sG9,hokm,hm0,fun z=>absurd ⟨by omega,by omega⟩ z,fun j2 us2 e2 hus2 G10 s10=>?_⟩
   obtain rfl:Dt.rk (Wd.beg m1) (Dt.rm ms m1) ws=j2:=by omega
   obtain rfl:us2=ws:=by rw [hrkg] at hus2;exact (Option.some.inj hus2).symm
   refine ⟨_,rfl,_,rfl,_,rfl,?_⟩
   rw [decide_eq_true rfl]
   exact q _
end
theorem all_mk {l:PySem.W.OpenLaw}{w:World}{K:PySem.W.Frag}{h:Heap}{mg:Str->Option Value}{fa:Addr}(X:K.In h)(G:h.Ns mainGlobals mg)(hfa:mg "law" = some (.ref fa))
  {f_0:Addr} {od_0 an_0:Option Addr} {sl_0:Array (Option Value)} {oc_0 kV_0 dc_0 pm_0 cd_0 ct_0:Value}
  {f_1:Addr} {od_1 an_1:Option Addr} {sl_1:Array (Option Value)} {oc_1 kV_1 dc_1 pm_1 cd_1 ct_1:Value}
  {f_2:Addr} {od_2 an_2:Option Addr} {sl_2:Array (Option Value)} {oc_2 kV_2 dc_2 pm_2 cd_2 ct_2:Value}
  {f_3:Addr} {od_3 an_3:Option Addr} {sl_3:Array (Option Value)} {oc_3 kV_3 dc_3 pm_3 cd_3 ct_3:Value}
  {f_4:Addr} {od_4 an_4:Option Addr} {sl_4:Array (Option Value)} {oc_4 kV_4 dc_4 pm_4 cd_4 ct_4:Value}
  {f_5:Addr} {od_5 an_5:Option Addr} {sl_5:Array (Option Value)} {oc_5 kV_5 dc_5 pm_5 cd_5 ct_5:Value}
  {f_6:Addr} {od_6 an_6:Option Addr} {sl_6:Array (Option Value)} {oc_6 kV_6 dc_6 pm_6 cd_6 ct_6:Value}
  {f_7:Addr} {od_7 an_7:Option Addr} {sl_7:Array (Option Value)} {oc_7 kV_7 dc_7 pm_7 cd_7 ct_7:Value}
  {f_8:Addr} {od_8 an_8:Option Addr} {sl_8:Array (Option Value)} {oc_8 kV_8 dc_8 pm_8 cd_8 ct_8:Value}
  {f_9:Addr} {od_9 an_9:Option Addr} {sl_9:Array (Option Value)} {oc_9 kV_9 dc_9 pm_9 cd_9 ct_9:Value}
  {f_10:Addr} {od_10 an_10:Option Addr} {sl_10:Array (Option Value)} {oc_10 kV_10 dc_10 pm_10 cd_10 ct_10:Value}
  {f_11:Addr} {od_11 an_11:Option Addr} {sl_11:Array (Option Value)} {oc_11 kV_11 dc_11 pm_11 cd_11 ct_11:Value}
  {f_12:Addr} {od_12 an_12:Option Addr} {sl_12:Array (Option Value)} {oc_12 kV_12 dc_12 pm_12 cd_12 ct_12:Value}
  {f_13:Addr} {od_13 an_13:Option Addr} {sl_13:Array (Option Value)} {oc_13 kV_13 dc_13 pm_13 cd_13 ct_13:Value}
  {f_14:Addr} {od_14 an_14:Option Addr} {sl_14:Array (Option Value)} {oc_14 kV_14 dc_14 pm_14 cd_14 ct_14:Value}
  {f_15:Addr} {od_15 an_15:Option Addr} {sl_15:Array (Option Value)} {oc_15 kV_15 dc_15 pm_15 cd_15 ct_15:Value}
  {f_16:Addr} {od_16 an_16:Option Addr} {sl_16:Array (Option Value)} {oc_16 kV_16 dc_16 pm_16 cd_16 ct_16:Value}
  {f_17:Addr} {od_17 an_17:Option Addr} {sl_17:Array (Option Value)} {oc_17 kV_17 dc_17 pm_17 cd_17 ct_17:Value}
  {f_18:Addr} {od_18 an_18:Option Addr} {sl_18:Array (Option Value)} {oc_18 kV_18 dc_18 pm_18 cd_18 ct_18:Value}
  {f_19:Addr} {od_19 an_19:Option Addr} {sl_19:Array (Option Value)} {oc_19 kV_19 dc_19 pm_19 cd_19 ct_19:Value}
  {f_20:Addr} {od_20 an_20:Option Addr} {sl_20:Array (Option Value)} {oc_20 kV_20 dc_20 pm_20 cd_20 ct_20:Value}
  {f_21:Addr} {od_21 an_21:Option Addr} {sl_21:Array (Option Value)} {oc_21 kV_21 dc_21 pm_21 cd_21 ct_21:Value}
  {f_22:Addr} {od_22 an_22:Option Addr} {sl_22:Array (Option Value)} {oc_22 kV_22 dc_22 pm_22 cd_22 ct_22:Value}
  {f_23:Addr} {od_23 an_23:Option Addr} {sl_23:Array (Option Value)} {oc_23 kV_23 dc_23 pm_23 cd_23 ct_23:Value}
  {f_24:Addr} {od_24 an_24:Option Addr} {sl_24:Array (Option Value)} {oc_24 kV_24 dc_24 pm_24 cd_24 ct_24:Value}
  {f_25:Addr} {od_25 an_25:Option Addr} {sl_25:Array (Option Value)} {oc_25 kV_25 dc_25 pm_25 cd_25 ct_25:Value}
  {f_26:Addr} {od_26 an_26:Option Addr} {sl_26:Array (Option Value)} {oc_26 kV_26 dc_26 pm_26 cd_26 ct_26:Value}
  {f_27:Addr} {od_27 an_27:Option Addr} {sl_27:Array (Option Value)} {oc_27 kV_27 dc_27 pm_27 cd_27 ct_27:Value}
  {f_28:Addr} {od_28 an_28:Option Addr} {sl_28:Array (Option Value)} {oc_28 kV_28 dc_28 pm_28 cd_28 ct_28:Value}
  {f_29:Addr} {od_29 an_29:Option Addr} {sl_29:Array (Option Value)} {oc_29 kV_29 dc_29 pm_29 cd_29 ct_29:Value}
  {f_30:Addr} {od_30 an_30:Option Addr} {sl_30:Array (Option Value)} {oc_30 kV_30 dc_30 pm_30 cd_30 ct_30:Value}
  {f_31:Addr} {od_31 an_31:Option Addr} {sl_31:Array (Option Value)} {oc_31 kV_31 dc_31 pm_31 cd_31 ct_31:Value}
  {f_32:Addr} {od_32 an_32:Option Addr} {sl_32:Array (Option Value)} {oc_32 kV_32 dc_32 pm_32 cd_32 ct_32:Value}
  {f_33:Addr} {od_33 an_33:Option Addr} {sl_33:Array (Option Value)} {oc_33 kV_33 dc_33 pm_33 cd_33 ct_33:Value}
  {f_34:Addr} {od_34 an_34:Option Addr} {sl_34:Array (Option Value)} {oc_34 kV_34 dc_34 pm_34 cd_34 ct_34:Value}
  {f_35:Addr} {od_35 an_35:Option Addr} {sl_35:Array (Option Value)} {oc_35 kV_35 dc_35 pm_35 cd_35 ct_35:Value}
  {f_36:Addr} {od_36 an_36:Option Addr} {sl_36:Array (Option Value)} {oc_36 kV_36 dc_36 pm_36 cd_36 ct_36:Value}
  {f_37:Addr} {od_37 an_37:Option Addr} {sl_37:Array (Option Value)} {oc_37 kV_37 dc_37 pm_37 cd_37 ct_37:Value}
  {f_38:Addr} {od_38 an_38:Option Addr} {sl_38:Array (Option Value)} {oc_38 kV_38 dc_38 pm_38 cd_38 ct_38:Value}
  {f_39:Addr} {od_39 an_39:Option Addr} {sl_39:Array (Option Value)} {oc_39 kV_39 dc_39 pm_39 cd_39 ct_39:Value}
  {c_BadKinds:Addr}
  {c_BadWord:Addr}
  {c_TooMany:Addr}
  {c_NoSuch:Addr}
  {c_NotOne:Addr}
  {c_Web:Addr}
  {c_KNOWN_TIMES:Addr}
  {u_FIRST_PRIME:Value}
  {u_STEP:Value}
  {u_LETTERS:Value}
  {u_LONGEST:Value}
  {u_MOST_OF_A_WEB:Value}
  {u_LONGEST_OF_A_WEB:Value}
  (a_0:PySem.W.nsIn K mainGlobals "further_times" = some (some (.ref f_0))) (l_0:K.lookup f_0=some ⟨oc_0,od_0,.func (PySem.W.fnOf "further_times" "further_times" (defArgs s_further_times) (defBody s_further_times) (defScope s_further_times) .none kV_0 dc_0 pm_0 an_0 cd_0 ct_0),sl_0⟩) (c_0:PySem.W.codeIn K cd_0 "further_times" = true) (k_0:PySem.W.keepIn K (.ref f_0)=true)
  (a_1:PySem.W.nsIn K mainGlobals "inverse" = some (some (.ref f_1))) (l_1:K.lookup f_1=some ⟨oc_1,od_1,.func (PySem.W.fnOf "inverse" "inverse" (defArgs s_inverse) (defBody s_inverse) (defScope s_inverse) .none kV_1 dc_1 pm_1 an_1 cd_1 ct_1),sl_1⟩) (c_1:PySem.W.codeIn K cd_1 "inverse" = true) (k_1:PySem.W.keepIn K (.ref f_1)=true)
  (a_2:PySem.W.nsIn K mainGlobals "lowered" = some (some (.ref f_2))) (l_2:K.lookup f_2=some ⟨oc_2,od_2,.func (PySem.W.fnOf "lowered" "lowered" (defArgs s_lowered) (defBody s_lowered) (defScope s_lowered) .none kV_2 dc_2 pm_2 an_2 cd_2 ct_2),sl_2⟩) (c_2:PySem.W.codeIn K cd_2 "lowered" = true) (k_2:PySem.W.keepIn K (.ref f_2)=true)
  (a_3:PySem.W.nsIn K mainGlobals "first_other_than_nought" = some (some (.ref f_3))) (l_3:K.lookup f_3=some ⟨oc_3,od_3,.func (PySem.W.fnOf "first_other_than_nought" "first_other_than_nought" (defArgs s_first_other_than_nought) (defBody s_first_other_than_nought) (defScope s_first_other_than_nought) .none kV_3 dc_3 pm_3 an_3 cd_3 ct_3),sl_3⟩) (c_3:PySem.W.codeIn K cd_3 "first_other_than_nought" = true) (k_3:PySem.W.keepIn K (.ref f_3)=true)
  (a_4:PySem.W.nsIn K mainGlobals "determinant_rest" = some (some (.ref f_4))) (l_4:K.lookup f_4=some ⟨oc_4,od_4,.func (PySem.W.fnOf "determinant_rest" "determinant_rest" (defArgs s_determinant_rest) (defBody s_determinant_rest) (defScope s_determinant_rest) .none kV_4 dc_4 pm_4 an_4 cd_4 ct_4),sl_4⟩) (c_4:PySem.W.codeIn K cd_4 "determinant_rest" = true) (k_4:PySem.W.keepIn K (.ref f_4)=true)
  (a_5:PySem.W.nsIn K mainGlobals "greatest_of" = some (some (.ref f_5))) (l_5:K.lookup f_5=some ⟨oc_5,od_5,.func (PySem.W.fnOf "greatest_of" "greatest_of" (defArgs s_greatest_of) (defBody s_greatest_of) (defScope s_greatest_of) .none kV_5 dc_5 pm_5 an_5 cd_5 ct_5),sl_5⟩) (c_5:PySem.W.codeIn K cd_5 "greatest_of" = true) (k_5:PySem.W.keepIn K (.ref f_5)=true)
  (a_6:PySem.W.nsIn K mainGlobals "determinant" = some (some (.ref f_6))) (l_6:K.lookup f_6=some ⟨oc_6,od_6,.func (PySem.W.fnOf "determinant" "determinant" (defArgs s_determinant) (defBody s_determinant) (defScope s_determinant) .none kV_6 dc_6 pm_6 an_6 cd_6 ct_6),sl_6⟩) (c_6:PySem.W.codeIn K cd_6 "determinant" = true) (k_6:PySem.W.keepIn K (.ref f_6)=true)
  (a_7:PySem.W.nsIn K mainGlobals "looked_kinds" = some (some (.ref f_7))) (l_7:K.lookup f_7=some ⟨oc_7,od_7,.func (PySem.W.fnOf "looked_kinds" "looked_kinds" (defArgs s_looked_kinds) (defBody s_looked_kinds) (defScope s_looked_kinds) .none kV_7 dc_7 pm_7 an_7 cd_7 ct_7),sl_7⟩) (c_7:PySem.W.codeIn K cd_7 "looked_kinds" = true) (k_7:PySem.W.keepIn K (.ref f_7)=true)
  (a_8:PySem.W.nsIn K mainGlobals "looked_length" = some (some (.ref f_8))) (l_8:K.lookup f_8=some ⟨oc_8,od_8,.func (PySem.W.fnOf "looked_length" "looked_length" (defArgs s_looked_length) (defBody s_looked_length) (defScope s_looked_length) .none kV_8 dc_8 pm_8 an_8 cd_8 ct_8),sl_8⟩) (c_8:PySem.W.codeIn K cd_8 "looked_length" = true) (k_8:PySem.W.keepIn K (.ref f_8)=true)
  (a_9:PySem.W.nsIn K mainGlobals "letters" = some (some (.ref f_9))) (l_9:K.lookup f_9=some ⟨oc_9,od_9,.func (PySem.W.fnOf "letters" "letters" (defArgs s_letters) (defBody s_letters) (defScope s_letters) .none kV_9 dc_9 pm_9 an_9 cd_9 ct_9),sl_9⟩) (c_9:PySem.W.codeIn K cd_9 "letters" = true) (k_9:PySem.W.keepIn K (.ref f_9)=true)
  (a_10:PySem.W.nsIn K mainGlobals "looked" = some (some (.ref f_10))) (l_10:K.lookup f_10=some ⟨oc_10,od_10,.func (PySem.W.fnOf "looked" "looked" (defArgs s_looked) (defBody s_looked) (defScope s_looked) .none kV_10 dc_10 pm_10 an_10 cd_10 ct_10),sl_10⟩) (c_10:PySem.W.codeIn K cd_10 "looked" = true) (k_10:PySem.W.keepIn K (.ref f_10)=true)
  (a_11:PySem.W.nsIn K mainGlobals "row_windows" = some (some (.ref f_11))) (l_11:K.lookup f_11=some ⟨oc_11,od_11,.func (PySem.W.fnOf "row_windows" "row_windows" (defArgs s_row_windows) (defBody s_row_windows) (defScope s_row_windows) .none kV_11 dc_11 pm_11 an_11 cd_11 ct_11),sl_11⟩) (c_11:PySem.W.codeIn K cd_11 "row_windows" = true) (k_11:PySem.W.keepIn K (.ref f_11)=true)
  (a_12:PySem.W.nsIn K mainGlobals "ring_windows" = some (some (.ref f_12))) (l_12:K.lookup f_12=some ⟨oc_12,od_12,.func (PySem.W.fnOf "ring_windows" "ring_windows" (defArgs s_ring_windows) (defBody s_ring_windows) (defScope s_ring_windows) .none kV_12 dc_12 pm_12 an_12 cd_12 ct_12),sl_12⟩) (c_12:PySem.W.codeIn K cd_12 "ring_windows" = true) (k_12:PySem.W.keepIn K (.ref f_12)=true)
  (a_13:PySem.W.nsIn K mainGlobals "windows" = some (some (.ref f_13))) (l_13:K.lookup f_13=some ⟨oc_13,od_13,.func (PySem.W.fnOf "windows" "windows" (defArgs s_windows) (defBody s_windows) (defScope s_windows) .none kV_13 dc_13 pm_13 an_13 cd_13 ct_13),sl_13⟩) (c_13:PySem.W.codeIn K cd_13 "windows" = true) (k_13:PySem.W.keepIn K (.ref f_13)=true)
  (a_14:PySem.W.nsIn K mainGlobals "looked_web" = some (some (.ref f_14))) (l_14:K.lookup f_14=some ⟨oc_14,od_14,.func (PySem.W.fnOf "looked_web" "looked_web" (defArgs s_looked_web) (defBody s_looked_web) (defScope s_looked_web) .none kV_14 dc_14 pm_14 an_14 cd_14 ct_14),sl_14⟩) (c_14:PySem.W.codeIn K cd_14 "looked_web" = true) (k_14:PySem.W.keepIn K (.ref f_14)=true)
  (a_15:PySem.W.findIn K (.ref c_Web) "__init__" = some (some (.ref f_15))) (l_15:K.lookup f_15=some ⟨oc_15,od_15,.func (PySem.W.fnOf "__init__" "Web.__init__" (defArgs s_Web_init) (defBody s_Web_init) (defScope s_Web_init) .none kV_15 dc_15 pm_15 an_15 cd_15 ct_15),sl_15⟩) (c_15:PySem.W.codeIn K cd_15 "Web.__init__" = true) (k_15:PySem.W.keepIn K (.ref f_15)=true) (i_Web_init:PySem.W.isFn K (.ref f_15)=true)
  (a_16:PySem.W.nsIn K mainGlobals "begin_of" = some (some (.ref f_16))) (l_16:K.lookup f_16=some ⟨oc_16,od_16,.func (PySem.W.fnOf "begin_of" "begin_of" (defArgs s_begin_of) (defBody s_begin_of) (defScope s_begin_of) .none kV_16 dc_16 pm_16 an_16 cd_16 ct_16),sl_16⟩) (c_16:PySem.W.codeIn K cd_16 "begin_of" = true) (k_16:PySem.W.keepIn K (.ref f_16)=true)
  (a_17:PySem.W.nsIn K mainGlobals "end_of" = some (some (.ref f_17))) (l_17:K.lookup f_17=some ⟨oc_17,od_17,.func (PySem.W.fnOf "end_of" "end_of" (defArgs s_end_of) (defBody s_end_of) (defScope s_end_of) .none kV_17 dc_17 pm_17 an_17 cd_17 ct_17),sl_17⟩) (c_17:PySem.W.codeIn K cd_17 "end_of" = true) (k_17:PySem.W.keepIn K (.ref f_17)=true)
  (a_18:PySem.W.nsIn K mainGlobals "is_turned_ring" = some (some (.ref f_18))) (l_18:K.lookup f_18=some ⟨oc_18,od_18,.func (PySem.W.fnOf "is_turned_ring" "is_turned_ring" (defArgs s_is_turned_ring) (defBody s_is_turned_ring) (defScope s_is_turned_ring) .none kV_18 dc_18 pm_18 an_18 cd_18 ct_18),sl_18⟩) (c_18:PySem.W.codeIn K cd_18 "is_turned_ring" = true) (k_18:PySem.W.keepIn K (.ref f_18)=true)
  (a_19:PySem.W.nsIn K mainGlobals "is_ring" = some (some (.ref f_19))) (l_19:K.lookup f_19=some ⟨oc_19,od_19,.func (PySem.W.fnOf "is_ring" "is_ring" (defArgs s_is_ring) (defBody s_is_ring) (defScope s_is_ring) .none kV_19 dc_19 pm_19 an_19 cd_19 ct_19),sl_19⟩) (c_19:PySem.W.codeIn K cd_19 "is_ring" = true) (k_19:PySem.W.keepIn K (.ref f_19)=true)
  (a_20:PySem.W.nsIn K mainGlobals "without" = some (some (.ref f_20))) (l_20:K.lookup f_20=some ⟨oc_20,od_20,.func (PySem.W.fnOf "without" "without" (defArgs s_without) (defBody s_without) (defScope s_without) .none kV_20 dc_20 pm_20 an_20 cd_20 ct_20),sl_20⟩) (c_20:PySem.W.codeIn K cd_20 "without" = true) (k_20:PySem.W.keepIn K (.ref f_20)=true)
  (a_21:PySem.W.nsIn K mainGlobals "choice_row" = some (some (.ref f_21))) (l_21:K.lookup f_21=some ⟨oc_21,od_21,.func (PySem.W.fnOf "choice_row" "choice_row" (defArgs s_choice_row) (defBody s_choice_row) (defScope s_choice_row) .none kV_21 dc_21 pm_21 an_21 cd_21 ct_21),sl_21⟩) (c_21:PySem.W.codeIn K cd_21 "choice_row" = true) (k_21:PySem.W.keepIn K (.ref f_21)=true)
  (a_22:PySem.W.nsIn K mainGlobals "choices_counted" = some (some (.ref f_22))) (l_22:K.lookup f_22=some ⟨oc_22,od_22,.func (PySem.W.fnOf "choices_counted" "choices_counted" (defArgs s_choices_counted) (defBody s_choices_counted) (defScope s_choices_counted) .none kV_22 dc_22 pm_22 an_22 cd_22 ct_22),sl_22⟩) (c_22:PySem.W.codeIn K cd_22 "choices_counted" = true) (k_22:PySem.W.keepIn K (.ref f_22)=true)
  (a_23:PySem.W.nsIn K mainGlobals "is_even" = some (some (.ref f_23))) (l_23:K.lookup f_23=some ⟨oc_23,od_23,.func (PySem.W.fnOf "is_even" "is_even" (defArgs s_is_even) (defBody s_is_even) (defScope s_is_even) .none kV_23 dc_23 pm_23 an_23 cd_23 ct_23),sl_23⟩) (c_23:PySem.W.codeIn K cd_23 "is_even" = true) (k_23:PySem.W.keepIn K (.ref f_23)=true)
  (a_24:PySem.W.nsIn K mainGlobals "by_begin" = some (some (.ref f_24))) (l_24:K.lookup f_24=some ⟨oc_24,od_24,.func (PySem.W.fnOf "by_begin" "by_begin" (defArgs s_by_begin) (defBody s_by_begin) (defScope s_by_begin) .none kV_24 dc_24 pm_24 an_24 cd_24 ct_24),sl_24⟩) (c_24:PySem.W.codeIn K cd_24 "by_begin" = true) (k_24:PySem.W.keepIn K (.ref f_24)=true)
  (a_25:PySem.W.nsIn K mainGlobals "product_up_to" = some (some (.ref f_25))) (l_25:K.lookup f_25=some ⟨oc_25,od_25,.func (PySem.W.fnOf "product_up_to" "product_up_to" (defArgs s_product_up_to) (defBody s_product_up_to) (defScope s_product_up_to) .none kV_25 dc_25 pm_25 an_25 cd_25 ct_25),sl_25⟩) (c_25:PySem.W.codeIn K cd_25 "product_up_to" = true) (k_25:PySem.W.keepIn K (.ref f_25)=true)
  (a_26:PySem.W.nsIn K mainGlobals "ways_on" = some (some (.ref f_26))) (l_26:K.lookup f_26=some ⟨oc_26,od_26,.func (PySem.W.fnOf "ways_on" "ways_on" (defArgs s_ways_on) (defBody s_ways_on) (defScope s_ways_on) .none kV_26 dc_26 pm_26 an_26 cd_26 ct_26),sl_26⟩) (c_26:PySem.W.codeIn K cd_26 "ways_on" = true) (k_26:PySem.W.keepIn K (.ref f_26)=true)
  (a_27:PySem.W.nsIn K mainGlobals "way_by" = some (some (.ref f_27))) (l_27:K.lookup f_27=some ⟨oc_27,od_27,.func (PySem.W.fnOf "way_by" "way_by" (defArgs s_way_by) (defBody s_way_by) (defScope s_way_by) .none kV_27 dc_27 pm_27 an_27 cd_27 ct_27),sl_27⟩) (c_27:PySem.W.codeIn K cd_27 "way_by" = true) (k_27:PySem.W.keepIn K (.ref f_27)=true)
  (a_28:PySem.W.nsIn K mainGlobals "way_number" = some (some (.ref f_28))) (l_28:K.lookup f_28=some ⟨oc_28,od_28,.func (PySem.W.fnOf "way_number" "way_number" (defArgs s_way_number) (defBody s_way_number) (defScope s_way_number) .none kV_28 dc_28 pm_28 an_28 cd_28 ct_28),sl_28⟩) (c_28:PySem.W.codeIn K cd_28 "way_number" = true) (k_28:PySem.W.keepIn K (.ref f_28)=true)
  (a_29:PySem.W.nsIn K mainGlobals "ring_count" = some (some (.ref f_29))) (l_29:K.lookup f_29=some ⟨oc_29,od_29,.func (PySem.W.fnOf "ring_count" "ring_count" (defArgs s_ring_count) (defBody s_ring_count) (defScope s_ring_count) .none kV_29 dc_29 pm_29 an_29 cd_29 ct_29),sl_29⟩) (c_29:PySem.W.codeIn K cd_29 "ring_count" = true) (k_29:PySem.W.keepIn K (.ref f_29)=true)
  (a_30:PySem.W.nsIn K mainGlobals "ring_by" = some (some (.ref f_30))) (l_30:K.lookup f_30=some ⟨oc_30,od_30,.func (PySem.W.fnOf "ring_by" "ring_by" (defArgs s_ring_by) (defBody s_ring_by) (defScope s_ring_by) .none kV_30 dc_30 pm_30 an_30 cd_30 ct_30),sl_30⟩) (c_30:PySem.W.codeIn K cd_30 "ring_by" = true) (k_30:PySem.W.keepIn K (.ref f_30)=true)
  (a_31:PySem.W.nsIn K mainGlobals "ring_number" = some (some (.ref f_31))) (l_31:K.lookup f_31=some ⟨oc_31,od_31,.func (PySem.W.fnOf "ring_number" "ring_number" (defArgs s_ring_number) (defBody s_ring_number) (defScope s_ring_number) .none kV_31 dc_31 pm_31 an_31 cd_31 ct_31),sl_31⟩) (c_31:PySem.W.codeIn K cd_31 "ring_number" = true) (k_31:PySem.W.keepIn K (.ref f_31)=true)
  (a_32:PySem.W.nsIn K mainGlobals "_law_cell_at" = some (some (.ref f_32))) (l_32:K.lookup f_32=some ⟨oc_32,od_32,.func (PySem.W.fnOf "_law_cell_at" "_law_cell_at" (defArgs s__law_cell_at) (defBody s__law_cell_at) (defScope s__law_cell_at) .none kV_32 dc_32 pm_32 an_32 cd_32 ct_32),sl_32⟩) (c_32:PySem.W.codeIn K cd_32 "_law_cell_at" = true) (k_32:PySem.W.keepIn K (.ref f_32)=true)
  (a_33:PySem.W.nsIn K mainGlobals "_law_whole" = some (some (.ref f_33))) (l_33:K.lookup f_33=some ⟨oc_33,od_33,.func (PySem.W.fnOf "_law_whole" "_law_whole" (defArgs s__law_whole) (defBody s__law_whole) (defScope s__law_whole) .none kV_33 dc_33 pm_33 an_33 cd_33 ct_33),sl_33⟩) (c_33:PySem.W.codeIn K cd_33 "_law_whole" = true) (k_33:PySem.W.keepIn K (.ref f_33)=true)
  (a_34:PySem.W.nsIn K mainGlobals "_law_walk" = some (some (.ref f_34))) (l_34:K.lookup f_34=some ⟨oc_34,od_34,.func (PySem.W.fnOf "_law_walk" "_law_walk" (defArgs s__law_walk) (defBody s__law_walk) (defScope s__law_walk) .none kV_34 dc_34 pm_34 an_34 cd_34 ct_34),sl_34⟩) (c_34:PySem.W.codeIn K cd_34 "_law_walk" = true) (k_34:PySem.W.keepIn K (.ref f_34)=true)
  (a_35:PySem.W.nsIn K mainGlobals "_law_ring_words" = some (some (.ref f_35))) (l_35:K.lookup f_35=some ⟨oc_35,od_35,.func (PySem.W.fnOf "_law_ring_words" "_law_ring_words" (defArgs s__law_ring_words) (defBody s__law_ring_words) (defScope s__law_ring_words) .none kV_35 dc_35 pm_35 an_35 cd_35 ct_35),sl_35⟩) (c_35:PySem.W.codeIn K cd_35 "_law_ring_words" = true) (k_35:PySem.W.keepIn K (.ref f_35)=true)
  (a_36:PySem.W.nsIn K mainGlobals "_law_numbers" = some (some (.ref f_36))) (l_36:K.lookup f_36=some ⟨oc_36,od_36,.func (PySem.W.fnOf "_law_numbers" "_law_numbers" (defArgs s__law_numbers) (defBody s__law_numbers) (defScope s__law_numbers) .none kV_36 dc_36 pm_36 an_36 cd_36 ct_36),sl_36⟩) (c_36:PySem.W.codeIn K cd_36 "_law_numbers" = true) (k_36:PySem.W.keepIn K (.ref f_36)=true)
  (a_37:PySem.W.nsIn K mainGlobals "_law_around" = some (some (.ref f_37))) (l_37:K.lookup f_37=some ⟨oc_37,od_37,.func (PySem.W.fnOf "_law_around" "_law_around" (defArgs s__law_around) (defBody s__law_around) (defScope s__law_around) .none kV_37 dc_37 pm_37 an_37 cd_37 ct_37),sl_37⟩) (c_37:PySem.W.codeIn K cd_37 "_law_around" = true) (k_37:PySem.W.keepIn K (.ref f_37)=true)
  (a_38:PySem.W.nsIn K mainGlobals "_law_is_ring" = some (some (.ref f_38))) (l_38:K.lookup f_38=some ⟨oc_38,od_38,.func (PySem.W.fnOf "_law_is_ring" "_law_is_ring" (defArgs s__law_is_ring) (defBody s__law_is_ring) (defScope s__law_is_ring) .none kV_38 dc_38 pm_38 an_38 cd_38 ct_38),sl_38⟩) (c_38:PySem.W.codeIn K cd_38 "_law_is_ring" = true) (k_38:PySem.W.keepIn K (.ref f_38)=true)
  (a_39:PySem.W.nsIn K mainGlobals "law" = some (some (.ref f_39))) (l_39:K.lookup f_39=some ⟨oc_39,od_39,.func (PySem.W.fnOf "law" "law" (defArgs s_law) (defBody s_law) (defScope s_law) .none kV_39 dc_39 pm_39 an_39 cd_39 ct_39),sl_39⟩) (c_39:PySem.W.codeIn K cd_39 "law" = true) (k_39:PySem.W.keepIn K (.ref f_39)=true)
  (z_abs:PySem.W.nsIn K mainGlobals "abs" = some none)
  (z_bool:PySem.W.nsIn K mainGlobals "bool" = some none)
  (z_enumerate:PySem.W.nsIn K mainGlobals "enumerate" = some none)
  (z_int:PySem.W.nsIn K mainGlobals "int" = some none)
  (z_isinstance:PySem.W.nsIn K mainGlobals "isinstance" = some none)
  (z_len:PySem.W.nsIn K mainGlobals "len" = some none)
  (z_list:PySem.W.nsIn K mainGlobals "list" = some none)
  (z_min:PySem.W.nsIn K mainGlobals "min" = some none)
  (z_range:PySem.W.nsIn K mainGlobals "range" = some none)
  (z_set:PySem.W.nsIn K mainGlobals "set" = some none)
  (z_sorted:PySem.W.nsIn K mainGlobals "sorted" = some none)
  (z_str:PySem.W.nsIn K mainGlobals "str" = some none)
  (z_sum:PySem.W.nsIn K mainGlobals "sum" = some none)
  (z_tuple:PySem.W.nsIn K mainGlobals "tuple" = some none)
  (z_zip:PySem.W.nsIn K mainGlobals "zip" = some none)
  (y_BadKinds:PySem.W.nsIn K mainGlobals "BadKinds" = some (some (.ref c_BadKinds)))
  (y_BadWord:PySem.W.nsIn K mainGlobals "BadWord" = some (some (.ref c_BadWord)))
  (y_TooMany:PySem.W.nsIn K mainGlobals "TooMany" = some (some (.ref c_TooMany)))
  (y_NoSuch:PySem.W.nsIn K mainGlobals "NoSuch" = some (some (.ref c_NoSuch)))
  (y_NotOne:PySem.W.nsIn K mainGlobals "NotOne" = some (some (.ref c_NotOne)))
  (y_Web:PySem.W.nsIn K mainGlobals "Web" = some (some (.ref c_Web)))
  (y_KNOWN_TIMES:PySem.W.nsIn K mainGlobals "KNOWN_TIMES" = some (some (.ref c_KNOWN_TIMES)))
  (e_BadKinds:PySem.W.excIn K c_BadKinds bmVE "ValueError.__new__" = true)
  (e_BadWord:PySem.W.excIn K c_BadWord bmVE "ValueError.__new__" = true)
  (e_TooMany:PySem.W.excIn K c_TooMany bmVE "ValueError.__new__" = true)
  (e_NoSuch:PySem.W.excIn K c_NoSuch bmVE "ValueError.__new__" = true)
  (e_NotOne:PySem.W.excIn K c_NotOne bmVE "ValueError.__new__" = true)
  (g_FIRST_PRIME:PySem.W.nsIn K mainGlobals "FIRST_PRIME" = some (some u_FIRST_PRIME)) (r_FIRST_PRIME:RelV (.int 2305843009213693951) u_FIRST_PRIME)
  (g_STEP:PySem.W.nsIn K mainGlobals "STEP" = some (some u_STEP)) (r_STEP:RelV (.int 6277101735386680763835789423207666416102355444464034512896) u_STEP)
  (g_LETTERS:PySem.W.nsIn K mainGlobals "LETTERS" = some (some u_LETTERS)) (r_LETTERS:RelV (T [97,98,99,100,101,102]) u_LETTERS)
  (g_LONGEST:PySem.W.nsIn K mainGlobals "LONGEST" = some (some u_LONGEST)) (r_LONGEST:RelV (.int 24) u_LONGEST)
  (g_MOST_OF_A_WEB:PySem.W.nsIn K mainGlobals "MOST_OF_A_WEB" = some (some u_MOST_OF_A_WEB)) (r_MOST_OF_A_WEB:RelV (.int 64) u_MOST_OF_A_WEB)
  (g_LONGEST_OF_A_WEB:PySem.W.nsIn K mainGlobals "LONGEST_OF_A_WEB" = some (some u_LONGEST_OF_A_WEB)) (r_LONGEST_OF_A_WEB:RelV (.int 8) u_LONGEST_OF_A_WEB)
  (kt:tupIs K c_KNOWN_TIMES [133,211,598,652,721,850,1282,1417,1582,1681,1726,1837,1885,2017,2377,2383,2452,2476,2530,2611,2662,2698,2773,2878,2917,2980,2998,3082,3238,3250,3343,3421,3427,3670,3817,4162,4252,4447,4468,4621,4630,4747,4867,4891,4915,5128,5143,5236,5401,5587,5650,5803,5833,5923,5986,6202,6235,6286,6496,6526,6736,7093,7561,7696,7831,7855,7882,7927,8143,8248]=true)
  (pg_Web:PySem.W.plainGet K c_Web Str.empty=true) (hd_Web:PySem.W.hasDictIn K c_Web=true) (po_Web:PySem.W.plainOver K c_Web=true) (sa_Web:PySem.W.findIn K (.ref c_Web) "__setattr__" = some (some (.builtin "object.__setattr__"))) (mk_Web:PySem.W.makesIn K c_Web=true) (kc_Web:PySem.W.keepIn K (.ref c_Web)=true)
  (na_Web_words:PySem.W.findIn K (.ref c_Web) "words" = some none)
  (na_Web_length:PySem.W.findIn K (.ref c_Web) "length" = some none) :
  ∃ fd:FuncData,(∀ (s:Shared) (v:Value),BindsTo s fd ⟨[v],[]⟩ [("script",v)])∧∀ base:Heap,K.In base->base.Ns mainGlobals mg->FnOk l.prog w K mg base (CX1 l.prog w) 8 fa fd ["script"] (spLaw K):=by
 have e:=hfa.symm.trans (PySem.W.mg_of X G a_39)
 cases e
 have tt:Txt K mg ⟨c_BadKinds,c_BadWord,c_TooMany,c_NoSuch,c_NotOne,c_Web,c_KNOWN_TIMES,u_FIRST_PRIME,u_STEP,u_LETTERS,u_LONGEST,u_MOST_OF_A_WEB,u_LONGEST_OF_A_WEB⟩:=⟨PySem.W.mg_none_of X G z_abs,PySem.W.mg_none_of X G z_bool,PySem.W.mg_none_of X G z_enumerate,PySem.W.mg_none_of X G z_int,PySem.W.mg_none_of X G z_isinstance,PySem.W.mg_none_of X G z_len,PySem.W.mg_none_of X G z_list,PySem.W.mg_none_of X G z_min,PySem.W.mg_none_of X G z_range,PySem.W.mg_none_of X G z_set,PySem.W.mg_none_of X G z_sorted,PySem.W.mg_none_of X G z_str,PySem.W.mg_none_of X G z_sum,PySem.W.mg_none_of X G z_tuple,PySem.W.mg_none_of X G z_zip,PySem.W.mg_of X G y_BadKinds,PySem.W.mg_of X G y_BadWord,PySem.W.mg_of X G y_TooMany,PySem.W.mg_of X G y_NoSuch,PySem.W.mg_of X G y_NotOne,PySem.W.mg_of X G y_Web,PySem.W.mg_of X G y_KNOWN_TIMES,⟨PySem.W.mg_of X G y_BadKinds,e_BadKinds⟩,⟨PySem.W.mg_of X G y_BadWord,e_BadWord⟩,⟨PySem.W.mg_of X G y_TooMany,e_TooMany⟩,⟨PySem.W.mg_of X G y_NoSuch,e_NoSuch⟩,⟨PySem.W.mg_of X G y_NotOne,e_NotOne⟩,PySem.W.mg_of X G g_FIRST_PRIME,r_FIRST_PRIME,PySem.W.mg_of X G g_STEP,r_STEP,PySem.W.mg_of X G g_LETTERS,r_LETTERS,PySem.W.mg_of X G g_LONGEST,r_LONGEST,PySem.W.mg_of X G g_MOST_OF_A_WEB,r_MOST_OF_A_WEB,PySem.W.mg_of X G g_LONGEST_OF_A_WEB,r_LONGEST_OF_A_WEB,kt,⟨pg_Web,hd_Web,po_Web,sa_Web⟩,na_Web_words,na_Web_length⟩
 have F_0:=fun_mk (st:=s_further_times) l_0 c_0 k_0
 have b_0:=F_0.binds (ps:=["place", "last"]) fun _ _ _ _ _ _ us hl=>L2.on2 (C:=fun us=>bindArgs _ ⟨us,[]⟩=pure (List.zip _ us)) hl fun _ _=>rfl
 have F_1:=fun_mk (st:=s_inverse) l_1 c_1 k_1
 have b_1:=F_1.binds (ps:=["number", "prime"]) fun _ _ _ _ _ _ us hl=>L2.on2 (C:=fun us=>bindArgs _ ⟨us,[]⟩=pure (List.zip _ us)) hl fun _ _=>rfl
 have F_2:=fun_mk (st:=s_lowered) l_2 c_2 k_2
 have b_2:=F_2.binds (ps:=["row", "top", "back", "prime"]) fun _ _ _ _ _ _ us hl=>L2.on4 (C:=fun us=>bindArgs _ ⟨us,[]⟩=pure (List.zip _ us)) hl fun _ _ _ _=>rfl
 have F_3:=fun_mk (st:=s_first_other_than_nought) l_3 c_3 k_3
 have b_3:=F_3.binds (ps:=["numbers"]) fun _ _ _ _ _ _ us hl=>L2.on1 (C:=fun us=>bindArgs _ ⟨us,[]⟩=pure (List.zip _ us)) hl fun _=>rfl
 have F_4:=fun_mk (st:=s_determinant_rest) l_4 c_4 k_4
 have b_4:=F_4.binds (ps:=["square", "prime"]) fun _ _ _ _ _ _ us hl=>L2.on2 (C:=fun us=>bindArgs _ ⟨us,[]⟩=pure (List.zip _ us)) hl fun _ _=>rfl
 have F_5:=fun_mk (st:=s_greatest_of) l_5 c_5 k_5
 have b_5:=F_5.binds (ps:=["square"]) fun _ _ _ _ _ _ us hl=>L2.on1 (C:=fun us=>bindArgs _ ⟨us,[]⟩=pure (List.zip _ us)) hl fun _=>rfl
 have F_6:=fun_mk (st:=s_determinant) l_6 c_6 k_6
 have b_6:=F_6.binds (ps:=["square"]) fun _ _ _ _ _ _ us hl=>L2.on1 (C:=fun us=>bindArgs _ ⟨us,[]⟩=pure (List.zip _ us)) hl fun _=>rfl
 have F_7:=fun_mk (st:=s_looked_kinds) l_7 c_7 k_7
 have b_7:=F_7.binds (ps:=["kinds"]) fun _ _ _ _ _ _ us hl=>L2.on1 (C:=fun us=>bindArgs _ ⟨us,[]⟩=pure (List.zip _ us)) hl fun _=>rfl
 have F_8:=fun_mk (st:=s_looked_length) l_8 c_8 k_8
 have b_8:=F_8.binds (ps:=["length", "kinds"]) fun _ _ _ _ _ _ us hl=>L2.on2 (C:=fun us=>bindArgs _ ⟨us,[]⟩=pure (List.zip _ us)) hl fun _ _=>rfl
 have F_9:=fun_mk (st:=s_letters) l_9 c_9 k_9
 have b_9:=F_9.binds (ps:=["kinds"]) fun _ _ _ _ _ _ us hl=>L2.on1 (C:=fun us=>bindArgs _ ⟨us,[]⟩=pure (List.zip _ us)) hl fun _=>rfl
 have F_10:=fun_mk (st:=s_looked) l_10 c_10 k_10
 have b_10:=F_10.binds (ps:=["word", "kinds"]) fun _ _ _ _ _ _ us hl=>L2.on2 (C:=fun us=>bindArgs _ ⟨us,[]⟩=pure (List.zip _ us)) hl fun _ _=>rfl
 have F_11:=fun_mk (st:=s_row_windows) l_11 c_11 k_11
 have b_11:=F_11.binds (ps:=["text", "length"]) fun _ _ _ _ _ _ us hl=>L2.on2 (C:=fun us=>bindArgs _ ⟨us,[]⟩=pure (List.zip _ us)) hl fun _ _=>rfl
 have F_12:=fun_mk (st:=s_ring_windows) l_12 c_12 k_12
 have b_12:=F_12.binds (ps:=["text", "length"]) fun _ _ _ _ _ _ us hl=>L2.on2 (C:=fun us=>bindArgs _ ⟨us,[]⟩=pure (List.zip _ us)) hl fun _ _=>rfl
 have F_13:=fun_mk (st:=s_windows) l_13 c_13 k_13
 have b_13:=F_13.binds (ps:=["text", "length", "ring"]) fun _ _ _ _ _ _ us hl=>L2.on3 (C:=fun us=>bindArgs _ ⟨us,[]⟩=pure (List.zip _ us)) hl fun _ _ _=>rfl
 have F_14:=fun_mk (st:=s_looked_web) l_14 c_14 k_14
 have b_14:=F_14.binds (ps:=["words"]) fun _ _ _ _ _ _ us hl=>L2.on1 (C:=fun us=>bindArgs _ ⟨us,[]⟩=pure (List.zip _ us)) hl fun _=>rfl
 have F_15:=fun_mk (st:=s_Web_init) l_15 c_15 k_15
 have b_15:=F_15.binds (ps:=["self", "words"]) fun _ _ _ _ _ _ us hl=>L2.on2 (C:=fun us=>bindArgs _ ⟨us,[]⟩=pure (List.zip _ us)) hl fun _ _=>rfl
 have F_16:=fun_mk (st:=s_begin_of) l_16 c_16 k_16
 have b_16:=F_16.binds (ps:=["word"]) fun _ _ _ _ _ _ us hl=>L2.on1 (C:=fun us=>bindArgs _ ⟨us,[]⟩=pure (List.zip _ us)) hl fun _=>rfl
 have F_17:=fun_mk (st:=s_end_of) l_17 c_17 k_17
 have b_17:=F_17.binds (ps:=["word"]) fun _ _ _ _ _ _ us hl=>L2.on1 (C:=fun us=>bindArgs _ ⟨us,[]⟩=pure (List.zip _ us)) hl fun _=>rfl
 have F_18:=fun_mk (st:=s_is_turned_ring) l_18 c_18 k_18
 have b_18:=F_18.binds (ps:=["web", "text"]) fun _ _ _ _ _ _ us hl=>L2.on2 (C:=fun us=>bindArgs _ ⟨us,[]⟩=pure (List.zip _ us)) hl fun _ _=>rfl
 have F_19:=fun_mk (st:=s_is_ring) l_19 c_19 k_19
 have b_19:=F_19.binds (ps:=["web", "text"]) fun _ _ _ _ _ _ us hl=>L2.on2 (C:=fun us=>bindArgs _ ⟨us,[]⟩=pure (List.zip _ us)) hl fun _ _=>rfl
 have F_20:=fun_mk (st:=s_without) l_20 c_20 k_20
 have b_20:=F_20.binds (ps:=["words", "word"]) fun _ _ _ _ _ _ us hl=>L2.on2 (C:=fun us=>bindArgs _ ⟨us,[]⟩=pure (List.zip _ us)) hl fun _ _=>rfl
 have F_21:=fun_mk (st:=s_choice_row) l_21 c_21 k_21
 have b_21:=F_21.binds (ps:=["texts", "text", "words"]) fun _ _ _ _ _ _ us hl=>L2.on3 (C:=fun us=>bindArgs _ ⟨us,[]⟩=pure (List.zip _ us)) hl fun _ _ _=>rfl
 have F_22:=fun_mk (st:=s_choices_counted) l_22 c_22 k_22
 have b_22:=F_22.binds (ps:=["ways"]) fun _ _ _ _ _ _ us hl=>L2.on1 (C:=fun us=>bindArgs _ ⟨us,[]⟩=pure (List.zip _ us)) hl fun _=>rfl
 have F_23:=fun_mk (st:=s_is_even) l_23 c_23 k_23
 have b_23:=F_23.binds (ps:=["words", "one", "other"]) fun _ _ _ _ _ _ us hl=>L2.on3 (C:=fun us=>bindArgs _ ⟨us,[]⟩=pure (List.zip _ us)) hl fun _ _ _=>rfl
 have F_24:=fun_mk (st:=s_by_begin) l_24 c_24 k_24
 have b_24:=F_24.binds (ps:=["words"]) fun _ _ _ _ _ _ us hl=>L2.on1 (C:=fun us=>bindArgs _ ⟨us,[]⟩=pure (List.zip _ us)) hl fun _=>rfl
 have F_25:=fun_mk (st:=s_product_up_to) l_25 c_25 k_25
 have b_25:=F_25.binds (ps:=["many"]) fun _ _ _ _ _ _ us hl=>L2.on1 (C:=fun us=>bindArgs _ ⟨us,[]⟩=pure (List.zip _ us)) hl fun _=>rfl
 have F_26:=fun_mk (st:=s_ways_on) l_26 c_26 k_26
 have b_26:=F_26.binds (ps:=["words", "one", "other"]) fun _ _ _ _ _ _ us hl=>L2.on3 (C:=fun us=>bindArgs _ ⟨us,[]⟩=pure (List.zip _ us)) hl fun _ _ _=>rfl
 have F_27:=fun_mk (st:=s_way_by) l_27 c_27 k_27
 have b_27:=F_27.binds (ps:=["words", "one", "other", "number"]) fun _ _ _ _ _ _ us hl=>L2.on4 (C:=fun us=>bindArgs _ ⟨us,[]⟩=pure (List.zip _ us)) hl fun _ _ _ _=>rfl
 have F_28:=fun_mk (st:=s_way_number) l_28 c_28 k_28
 have b_28:=F_28.binds (ps:=["words", "order", "other"]) fun _ _ _ _ _ _ us hl=>L2.on3 (C:=fun us=>bindArgs _ ⟨us,[]⟩=pure (List.zip _ us)) hl fun _ _ _=>rfl
 have F_29:=fun_mk (st:=s_ring_count) l_29 c_29 k_29
 have b_29:=F_29.binds (ps:=["web"]) fun _ _ _ _ _ _ us hl=>L2.on1 (C:=fun us=>bindArgs _ ⟨us,[]⟩=pure (List.zip _ us)) hl fun _=>rfl
 have F_30:=fun_mk (st:=s_ring_by) l_30 c_30 k_30
 have b_30:=F_30.binds (ps:=["web", "number"]) fun _ _ _ _ _ _ us hl=>L2.on2 (C:=fun us=>bindArgs _ ⟨us,[]⟩=pure (List.zip _ us)) hl fun _ _=>rfl
 have F_31:=fun_mk (st:=s_ring_number) l_31 c_31 k_31
 have b_31:=F_31.binds (ps:=["web", "ring"]) fun _ _ _ _ _ _ us hl=>L2.on2 (C:=fun us=>bindArgs _ ⟨us,[]⟩=pure (List.zip _ us)) hl fun _ _=>rfl
 have F_32:=fun_mk (st:=s__law_cell_at) l_32 c_32 k_32
 have b_32:=F_32.binds (ps:=["script", "k"]) fun _ _ _ _ _ _ us hl=>L2.on2 (C:=fun us=>bindArgs _ ⟨us,[]⟩=pure (List.zip _ us)) hl fun _ _=>rfl
 have F_33:=fun_mk (st:=s__law_whole) l_33 c_33 k_33
 have b_33:=F_33.binds (ps:=["found", "due"]) fun _ _ _ _ _ _ us hl=>L2.on2 (C:=fun us=>bindArgs _ ⟨us,[]⟩=pure (List.zip _ us)) hl fun _ _=>rfl
 have F_34:=fun_mk (st:=s__law_walk) l_34 c_34 k_34
 have b_34:=F_34.binds (ps:=["cells", "kinds", "first"]) fun _ _ _ _ _ _ us hl=>L2.on3 (C:=fun us=>bindArgs _ ⟨us,[]⟩=pure (List.zip _ us)) hl fun _ _ _=>rfl
 have F_35:=fun_mk (st:=s__law_ring_words) l_35 c_35 k_35
 have b_35:=F_35.binds (ps:=["script", "at", "most"]) fun _ _ _ _ _ _ us hl=>L2.on3 (C:=fun us=>bindArgs _ ⟨us,[]⟩=pure (List.zip _ us)) hl fun _ _ _=>rfl
 have F_36:=fun_mk (st:=s__law_numbers) l_36 c_36 k_36
 have b_36:=F_36.binds (ps:=["script", "many"]) fun _ _ _ _ _ _ us hl=>L2.on2 (C:=fun us=>bindArgs _ ⟨us,[]⟩=pure (List.zip _ us)) hl fun _ _=>rfl
 have F_37:=fun_mk (st:=s__law_around) l_37 c_37 k_37
 have b_37:=F_37.binds (ps:=["text", "length"]) fun _ _ _ _ _ _ us hl=>L2.on2 (C:=fun us=>bindArgs _ ⟨us,[]⟩=pure (List.zip _ us)) hl fun _ _=>rfl
 have F_38:=fun_mk (st:=s__law_is_ring) l_38 c_38 k_38
 have b_38:=F_38.binds (ps:=["words", "text"]) fun _ _ _ _ _ _ us hl=>L2.on2 (C:=fun us=>bindArgs _ ⟨us,[]⟩=pure (List.zip _ us)) hl fun _ _=>rfl
 have F_39:=fun_mk (st:=s_law) l_39 c_39 k_39
 refine ⟨PySem.W.fnOf "law" "law" (defArgs s_law) (defBody s_law) (defScope s_law) .none kV_39 dc_39 pm_39 an_39 cd_39 ct_39,fun s v=>.of_eq rfl,fun base _ _=>?_⟩
 have C_0:Cal l.prog w K mg base (CX1 l.prog w) "further_times" 1 ["place", "last"] spTimes:=⟨⟨_,_,ok_further_times F_0 tt,PySem.W.mg_of X G a_0,F_0.kp,b_0⟩⟩
 have C_1:Cal l.prog w K mg base (CX1 l.prog w) "inverse" 1 ["number", "prime"] spInvs:=⟨⟨_,_,ok_inverse F_1 tt,PySem.W.mg_of X G a_1,F_1.kp,b_1⟩⟩
 have C_2:Cal l.prog w K mg base (CX1 l.prog w) "lowered" 1 ["row", "top", "back", "prime"] (spLow K):=⟨⟨_,_,ok_lowered F_2 tt,PySem.W.mg_of X G a_2,F_2.kp,b_2⟩⟩
 have C_3:Cal l.prog w K mg base (CX1 l.prog w) "first_other_than_nought" 1 ["numbers"] (spFirst K):=⟨⟨_,_,ok_first_other_than_nought F_3 tt,PySem.W.mg_of X G a_3,F_3.kp,b_3⟩⟩
 have C_4:Cal l.prog w K mg base (CX1 l.prog w) "determinant_rest" 2 ["square", "prime"] (spRest K):=⟨⟨_,_,ok_determinant_rest F_4 tt C_3 C_1 C_2,PySem.W.mg_of X G a_4,F_4.kp,b_4⟩⟩
 have C_5:Cal l.prog w K mg base (CX1 l.prog w) "greatest_of" 1 ["square"] (spGreat K):=⟨⟨_,_,ok_greatest_of F_5 tt,PySem.W.mg_of X G a_5,F_5.kp,b_5⟩⟩
 have C_6:Cal l.prog w K mg base (CX1 l.prog w) "determinant" 3 ["square"] (spDet K):=⟨⟨_,_,ok_determinant F_6 tt C_5 C_4 C_0 C_1,PySem.W.mg_of X G a_6,F_6.kp,b_6⟩⟩
 have C_7:Cal l.prog w K mg base (CX1 l.prog w) "looked_kinds" 1 ["kinds"] (spKindsX _):=⟨⟨_,_,ok_looked_kinds F_7 tt,PySem.W.mg_of X G a_7,F_7.kp,b_7⟩⟩
 have C_8:Cal l.prog w K mg base (CX1 l.prog w) "looked_length" 2 ["length", "kinds"] (spLenX _):=⟨⟨_,_,ok_looked_length F_8 tt C_7,PySem.W.mg_of X G a_8,F_8.kp,b_8⟩⟩
 have C_9:Cal l.prog w K mg base (CX1 l.prog w) "letters" 2 ["kinds"] (spLettersX _):=⟨⟨_,_,ok_letters F_9 tt C_7,PySem.W.mg_of X G a_9,F_9.kp,b_9⟩⟩
 have C_10:Cal l.prog w K mg base (CX1 l.prog w) "looked" 3 ["word", "kinds"] (spLookedX _):=⟨⟨_,_,ok_looked F_10 tt C_8 C_9,PySem.W.mg_of X G a_10,F_10.kp,b_10⟩⟩
 have C_11:Cal l.prog w K mg base (CX1 l.prog w) "row_windows" 1 ["text", "length"] spRowW:=⟨⟨_,_,ok_row_windows F_11 tt,PySem.W.mg_of X G a_11,F_11.kp,b_11⟩⟩
 have C_12:Cal l.prog w K mg base (CX1 l.prog w) "ring_windows" 1 ["text", "length"] spRingW:=⟨⟨_,_,ok_ring_windows F_12 tt,PySem.W.mg_of X G a_12,F_12.kp,b_12⟩⟩
 have C_13:Cal l.prog w K mg base (CX1 l.prog w) "windows" 2 ["text", "length", "ring"] spWin:=⟨⟨_,_,ok_windows F_13 tt C_11 C_12,PySem.W.mg_of X G a_13,F_13.kp,b_13⟩⟩
 have C_14:Cal l.prog w K mg base (CX1 l.prog w) "looked_web" 4 ["words"] (spWebL K):=⟨⟨_,_,ok_looked_web F_14 tt C_10,PySem.W.mg_of X G a_14,F_14.kp,b_14⟩⟩
 have C_15:Cam l.prog w K mg base (CX1 l.prog w) "Web" c_Web 5 ["self", "words"] (spWebI K _):=⟨⟨_,_,ok_Web_init F_15 tt C_14,⟨mk_Web,a_15,i_Web_init,kc_Web⟩,PySem.W.mg_of X G y_Web,b_15⟩⟩
 have C_16:Cal l.prog w K mg base (CX1 l.prog w) "begin_of" 1 ["word"] spBegin:=⟨⟨_,_,ok_begin_of F_16 tt,PySem.W.mg_of X G a_16,F_16.kp,b_16⟩⟩
 have C_17:Cal l.prog w K mg base (CX1 l.prog w) "end_of" 1 ["word"] spEnd:=⟨⟨_,_,ok_end_of F_17 tt,PySem.W.mg_of X G a_17,F_17.kp,b_17⟩⟩
 have C_18:Cal l.prog w K mg base (CX1 l.prog w) "is_turned_ring" 3 ["web", "text"] (spIsTR c_Web):=⟨⟨_,_,ok_is_turned_ring F_18 tt C_13,PySem.W.mg_of X G a_18,F_18.kp,b_18⟩⟩
 have C_19:Cal l.prog w K mg base (CX1 l.prog w) "is_ring" 4 ["web", "text"] (spIsRing c_Web):=⟨⟨_,_,ok_is_ring F_19 tt C_18 C_13,PySem.W.mg_of X G a_19,F_19.kp,b_19⟩⟩
 have C_20:Cal l.prog w K mg base (CX1 l.prog w) "without" 1 ["words", "word"] (spWithout K):=⟨⟨_,_,ok_without F_20 tt,PySem.W.mg_of X G a_20,F_20.kp,b_20⟩⟩
 have C_21:Cal l.prog w K mg base (CX1 l.prog w) "choice_row" 2 ["texts", "text", "words"] (spRowC K):=⟨⟨_,_,ok_choice_row F_21 tt C_17,PySem.W.mg_of X G a_21,F_21.kp,b_21⟩⟩
 have C_22:Cal l.prog w K mg base (CX1 l.prog w) "choices_counted" 4 ["ways"] (spChoices K):=⟨⟨_,_,ok_choices_counted F_22 tt C_6 C_21,PySem.W.mg_of X G a_22,F_22.kp,b_22⟩⟩
 have C_23:Cal l.prog w K mg base (CX1 l.prog w) "is_even" 2 ["words", "one", "other"] (spEven K):=⟨⟨_,_,ok_is_even F_23 tt C_16 C_17,PySem.W.mg_of X G a_23,F_23.kp,b_23⟩⟩
 have C_24:Cal l.prog w K mg base (CX1 l.prog w) "by_begin" 2 ["words"] (spByB K):=⟨⟨_,_,ok_by_begin F_24 tt C_16,PySem.W.mg_of X G a_24,F_24.kp,b_24⟩⟩
 have C_25:Cal l.prog w K mg base (CX1 l.prog w) "product_up_to" 1 ["many"] spProd:=⟨⟨_,_,ok_product_up_to F_25 tt,PySem.W.mg_of X G a_25,F_25.kp,b_25⟩⟩
 have C_26:Cal l.prog w K mg base (CX1 l.prog w) "ways_on" 5 ["words", "one", "other"] (spWaysOn K):=⟨⟨_,_,ok_ways_on F_26 tt C_23 C_24 C_25 C_22,PySem.W.mg_of X G a_26,F_26.kp,b_26⟩⟩
 have C_27:Cal l.prog w K mg base (CX1 l.prog w) "way_by" 6 ["words", "one", "other", "number"] (spWayBy K):=⟨⟨_,_,ok_way_by F_27 tt C_24 C_26 C_20 C_17,PySem.W.mg_of X G a_27,F_27.kp,b_27⟩⟩
 have C_28:Cal l.prog w K mg base (CX1 l.prog w) "way_number" 6 ["words", "order", "other"] (spWayNum K):=⟨⟨_,_,ok_way_number F_28 tt C_24 C_16 C_26 C_20 C_17,PySem.W.mg_of X G a_28,F_28.kp,b_28⟩⟩
 have C_29:Cal l.prog w K mg base (CX1 l.prog w) "ring_count" 6 ["web"] (spRingC c_Web):=⟨⟨_,_,ok_ring_count F_29 tt C_26 C_17 C_16,PySem.W.mg_of X G a_29,F_29.kp,b_29⟩⟩
 have C_30:Cal l.prog w K mg base (CX1 l.prog w) "ring_by" 7 ["web", "number"] (spRingBy c_Web _):=⟨⟨_,_,ok_ring_by F_30 tt C_29 C_27 C_17 C_16,PySem.W.mg_of X G a_30,F_30.kp,b_30⟩⟩
 have C_31:Cal l.prog w K mg base (CX1 l.prog w) "ring_number" 7 ["web", "ring"] (spRingN c_Web _):=⟨⟨_,_,ok_ring_number F_31 tt C_19 C_28 C_13 C_16,PySem.W.mg_of X G a_31,F_31.kp,b_31⟩⟩
 have C_32:Cal l.prog w K mg base (CX1 l.prog w) "_law_cell_at" 1 ["script", "k"] (spCell K):=⟨⟨_,_,ok__law_cell_at F_32 tt,PySem.W.mg_of X G a_32,F_32.kp,b_32⟩⟩
 have C_33:Cal l.prog w K mg base (CX1 l.prog w) "_law_whole" 1 ["found", "due"] spWhole:=⟨⟨_,_,ok__law_whole F_33 tt,PySem.W.mg_of X G a_33,F_33.kp,b_33⟩⟩
 have C_34:Cal l.prog w K mg base (CX1 l.prog w) "_law_walk" 1 ["cells", "kinds", "first"] (spWalk K):=⟨⟨_,_,ok__law_walk F_34 tt,PySem.W.mg_of X G a_34,F_34.kp,b_34⟩⟩
 have C_35:Cal l.prog w K mg base (CX1 l.prog w) "_law_ring_words" 2 ["script", "at", "most"] (spRingWd K):=⟨⟨_,_,ok__law_ring_words F_35 tt C_32 C_34,PySem.W.mg_of X G a_35,F_35.kp,b_35⟩⟩
 have C_36:Cal l.prog w K mg base (CX1 l.prog w) "_law_numbers" 1 ["script", "many"] (spNums K):=⟨⟨_,_,ok__law_numbers F_36 tt,PySem.W.mg_of X G a_36,F_36.kp,b_36⟩⟩
 have C_37:Cal l.prog w K mg base (CX1 l.prog w) "_law_around" 1 ["text", "length"] spAround:=⟨⟨_,_,ok__law_around F_37 tt,PySem.W.mg_of X G a_37,F_37.kp,b_37⟩⟩
 have C_38:Cal l.prog w K mg base (CX1 l.prog w) "_law_is_ring" 2 ["words", "text"] (spIsR K):=⟨⟨_,_,ok__law_is_ring F_38 tt C_37,PySem.W.mg_of X G a_38,F_38.kp,b_38⟩⟩
 exact ok_law F_39 tt C_35 C_15 C_29 C_36 C_30 C_38 C_33 C_31
theorem walk {l : PySem.W.OpenLaw} {q : Program} {loose : List Str} {XP : (Str → Option Value) → Heap → Prop} {YP : World → Heap → Prop} {d : DefRec} {K : Params → PySem.W.Frag} (hn : l.most = some 63) (hdf : d.params.defaults = [])
  (hY : ∀ (w : World) (h : Heap), YP w h → (K w.params).In h)
  (F : ∀ (w : World) (mg : Str → Option Value) (fa : Addr) (h : Heap), (K w.params).In h → h.Ns mainGlobals mg → mg d.name = some (.ref fa) →
   ∃ fd : FuncData, (∀ (s : Shared) (u : Value), BindsTo s fd ⟨[u], []⟩ [("script", u)]) ∧ ∀ base : Heap, (K w.params).In base → base.Ns mainGlobals mg → FnOk l.prog w (K w.params) mg base (CX1 l.prog w) 8 fa fd ["script"] (spLaw (K w.params))) :
  PySem.W.WalkO q loose XP YP l.row.toRowW d [] (fun f vs => PySem.call f vs) :=
 L2.walk_of (n := 63) (k := 8) (x := "script") (CX := fun w => CX1 l.prog w) (sp := fun w => spLaw (K w.params)) hn (by decide) hdf ⟨rfl, by decide, by decide⟩ hY F (fun _ _ a ns hl _ hS => ⟨a, ns, rfl, hS, hl, fun _ => rfl⟩) fun _ _ _ _ _ ⟨_, _, _, _, _, z⟩ => z
end K39
theorem PySem.W.Fast.tw15599205281127639136:True:=trivial
theorem PySem.W.Fast.tw11455777704887350912:True:=trivial
theorem PySem.W.Fast.tw7906975068095762048:True:=trivial
theorem PySem.W.Fast.tw5652500360352317248:True:=trivial
theorem PySem.W.Fast.tw15053907149785466720:True:=trivial
theorem PySem.W.Fast.tw16185051810530207616:True:=trivial
theorem PySem.W.Fast.tw4642741860320643809:True:=trivial
theorem PySem.W.Fast.tw2873344519926930273:True:=trivial
theorem PySem.W.Fast.tw7340107306598702146:True:=trivial
theorem PySem.W.Fast.tw4927696753668412514:True:=trivial
theorem PySem.W.Fast.tw6560121740971297954:True:=trivial
theorem PySem.W.Fast.tw16359558622132177666:True:=trivial
theorem PySem.W.Fast.tw11100371867214012226:True:=trivial
theorem PySem.W.Fast.tw17189724980009232354:True:=trivial
theorem PySem.W.Fast.tw5639864219300352003:True:=trivial
theorem PySem.W.Fast.tw9390829733080921187:True:=trivial
theorem PySem.W.Fast.tw10275926268400964739:True:=trivial
theorem PySem.W.Fast.tw8714294601041680515:True:=trivial
theorem PySem.W.Fast.tw2848548062053778563:True:=trivial
theorem PySem.W.Fast.tw5548293355012099267:True:=trivial
theorem PySem.W.Fast.tw4687401074263722243:True:=trivial
theorem PySem.W.Fast.tw9538852937713092931:True:=trivial
theorem PySem.W.Fast.tw10048572663170175299:True:=trivial
theorem PySem.W.Fast.tw5417679806187990531:True:=trivial
theorem PySem.W.Fast.tw3825793699153264836:True:=trivial
theorem PySem.W.Fast.tw15495165374221892964:True:=trivial
theorem PySem.W.Fast.tw15151778221414847876:True:=trivial
theorem PySem.W.Fast.tw5305022837482649252:True:=trivial
theorem PySem.W.Fast.tw13893342774438237892:True:=trivial
theorem PySem.W.Fast.tw5921531292670596932:True:=trivial
theorem PySem.W.Fast.tw17864827114837356516:True:=trivial
theorem PySem.W.Fast.tw11314942578214689797:True:=trivial
theorem PySem.W.Fast.tw11914630842680022405:True:=trivial
theorem PySem.W.Fast.tw14543049182772813381:True:=trivial
theorem PySem.W.Fast.tw7916775954010717893:True:=trivial
theorem PySem.W.Fast.tw11369904360936512485:True:=trivial
theorem PySem.W.Fast.tw11434218192225432646:True:=trivial
theorem PySem.W.Fast.tw5453624468999051494:True:=trivial
theorem PySem.W.Fast.tw6343930480664437990:True:=trivial
theorem PySem.W.Fast.tw558599049558681958:True:=trivial
theorem PySem.W.Fast.tw8567852064817433062:True:=trivial
theorem PySem.W.Fast.tw7133200032731650694:True:=trivial
theorem PySem.W.Fast.tw16904588843707155430:True:=trivial
theorem PySem.W.Fast.tw7035869850456591399:True:=trivial
theorem PySem.W.Fast.tw6396876893359231047:True:=trivial
theorem PySem.W.Fast.tw13229402100505073735:True:=trivial
theorem PySem.W.Fast.tw4968100216178569383:True:=trivial
theorem PySem.W.Fast.tw14868719686586005735:True:=trivial
theorem PySem.W.Fast.tw5215053955425562311:True:=trivial
theorem PySem.W.Fast.tw7846639858878741512:True:=trivial
theorem PySem.W.Fast.tw10568498041699359528:True:=trivial
theorem PySem.W.Fast.tw8556339373448092648:True:=trivial
theorem PySem.W.Fast.tw3348892877094888553:True:=trivial
theorem PySem.W.Fast.tw5578463104297963657:True:=trivial
theorem PySem.W.Fast.tw1699242941531431049:True:=trivial
theorem PySem.W.Fast.tw8908386408414048457:True:=trivial
theorem PySem.W.Fast.tw3448249160680268105:True:=trivial
theorem PySem.W.Fast.tw1732814729334760969:True:=trivial
theorem PySem.W.Fast.tw13170185803342213769:True:=trivial
theorem PySem.W.Fast.tw7881914753810734857:True:=trivial
theorem PySem.W.Fast.tw10610433126162132873:True:=trivial
theorem PySem.W.Fast.tw14526222266704445353:True:=trivial
theorem PySem.W.Fast.tw13428854164908407850:True:=trivial
theorem PySem.W.Fast.tw3867524563852206314:True:=trivial
theorem PySem.W.Fast.tw5716653866193820010:True:=trivial
theorem PySem.W.Fast.tw10323493135275056522:True:=trivial
theorem PySem.W.Fast.tw4702898318639361546:True:=trivial
theorem PySem.W.Fast.tw10742262803378369162:True:=trivial
theorem PySem.W.Fast.tw1172017417592297162:True:=trivial
theorem PySem.W.Fast.tw9083325300338146026:True:=trivial
theorem PySem.W.Fast.tw66046477129019435:True:=trivial
theorem PySem.W.Fast.tw1170566033919179243:True:=trivial
theorem PySem.W.Fast.tw1969218118327364459:True:=trivial
theorem PySem.W.Fast.tw7036868498186322923:True:=trivial
theorem PySem.W.Fast.tw5774191465172401164:True:=trivial
theorem PySem.W.Fast.tw433155492402655340:True:=trivial
theorem PySem.W.Fast.tw11465495211814222124:True:=trivial
theorem PySem.W.Fast.tw13957131325619073868:True:=trivial
theorem PySem.W.Fast.tw5599135188499406796:True:=trivial
theorem PySem.W.Fast.tw18185527840380468237:True:=trivial
theorem PySem.W.Fast.tw15288183170229626893:True:=trivial
theorem PySem.W.Fast.tw8435348365992213613:True:=trivial
theorem PySem.W.Fast.tw7564561266427390061:True:=trivial
theorem PySem.W.Fast.tw14847541379256118413:True:=trivial
theorem PySem.W.Fast.tw17881550062512063213:True:=trivial
theorem PySem.W.Fast.tw5335764506891921197:True:=trivial
theorem PySem.W.Fast.tw10432867264716065645:True:=trivial
theorem PySem.W.Fast.tw2341716446235706414:True:=trivial
theorem PySem.W.Fast.tw10049364351299895438:True:=trivial
theorem PySem.W.Fast.tw17520002611490139438:True:=trivial
theorem PySem.W.Fast.tw15911654960029956398:True:=trivial
theorem PySem.W.Fast.tw4840925755040414030:True:=trivial
theorem PySem.W.Fast.tw6830949459512364622:True:=trivial
theorem PySem.W.Fast.tw1469390536574501550:True:=trivial
theorem PySem.W.Fast.tw18061929770975485967:True:=trivial
theorem PySem.W.Fast.tw8108916983047845903:True:=trivial
theorem PySem.W.Fast.tw3605419614849905711:True:=trivial
theorem PySem.W.Fast.tw8793871642944198927:True:=trivial
theorem PySem.W.Fast.tw4240938687019729231:True:=trivial
theorem PySem.W.Fast.tw4426744820845863247:True:=trivial
theorem PySem.W.Fast.tw8939514345313147343:True:=trivial
theorem PySem.W.Fast.tw13591874025302486607:True:=trivial
theorem PySem.W.Fast.tw9687865984259499631:True:=trivial
theorem PySem.W.Fast.tw7377531519882607247:True:=trivial
theorem PySem.W.Fast.tw907992040915882735:True:=trivial
theorem PySem.W.Fast.tw11094902018417434575:True:=trivial
theorem PySem.W.Fast.tw14928690166691260688:True:=trivial
theorem PySem.W.Fast.tw12899350171489456656:True:=trivial
theorem PySem.W.Fast.tw2427182958621570608:True:=trivial
theorem PySem.W.Fast.tw10394812319414834257:True:=trivial
theorem PySem.W.Fast.tw2344450642818155633:True:=trivial
theorem PySem.W.Fast.tw11901126740522826993:True:=trivial
theorem PySem.W.Fast.tw12853434708040426801:True:=trivial
theorem PySem.W.Fast.tw18094936196965604689:True:=trivial
theorem PySem.W.Fast.tw7231143789015234129:True:=trivial
theorem PySem.W.Fast.tw17343235223978203186:True:=trivial
theorem PySem.W.Fast.tw5427616251551950066:True:=trivial
theorem PySem.W.Fast.tw9911117965317770802:True:=trivial
theorem PySem.W.Fast.tw2877286865890567154:True:=trivial
theorem PySem.W.Fast.tw8364053645404399795:True:=trivial
theorem PySem.W.Fast.tw16418446254893237651:True:=trivial
theorem PySem.W.Fast.tw2972703799296242163:True:=trivial
theorem PySem.W.Fast.tw16289709443187716691:True:=trivial
theorem PySem.W.Fast.tw15910992030870626963:True:=trivial
theorem PySem.W.Fast.tw16629772454772299028:True:=trivial
theorem PySem.W.Fast.tw12889510684216878516:True:=trivial
theorem PySem.W.Fast.tw5643746680357069748:True:=trivial
theorem PySem.W.Fast.tw10253346581175176180:True:=trivial
theorem PySem.W.Fast.tw6380658191713503253:True:=trivial
theorem PySem.W.Fast.tw16775559201552374997:True:=trivial
theorem PySem.W.Fast.tw7413490548548020629:True:=trivial
theorem PySem.W.Fast.tw3298298848361482677:True:=trivial
theorem PySem.W.Fast.tw5350831243379197429:True:=trivial
theorem PySem.W.Fast.tw16409877715402041941:True:=trivial
theorem PySem.W.Fast.tw17751704156944479925:True:=trivial
theorem PySem.W.Fast.tw14093136431206838037:True:=trivial
theorem PySem.W.Fast.tw16897234665298479925:True:=trivial
theorem PySem.W.Fast.tw3635649298701487158:True:=trivial
theorem PySem.W.Fast.tw2522831995201258646:True:=trivial
theorem PySem.W.Fast.tw7472729602879768790:True:=trivial
theorem PySem.W.Fast.tw9851831383190201846:True:=trivial
theorem PySem.W.Fast.tw17301819999110009398:True:=trivial
theorem PySem.W.Fast.tw3475172844652558998:True:=trivial
theorem PySem.W.Fast.tw6225796642837278454:True:=trivial
theorem PySem.W.Fast.tw18323034397643732758:True:=trivial
theorem PySem.W.Fast.tw10043593656113687350:True:=trivial
theorem PySem.W.Fast.tw6529750259005395926:True:=trivial
theorem PySem.W.Fast.tw10456806092834601047:True:=trivial
theorem PySem.W.Fast.tw10682030696845916695:True:=trivial
theorem PySem.W.Fast.tw6457788524892184279:True:=trivial
theorem PySem.W.Fast.tw14728845106772793271:True:=trivial
theorem PySem.W.Fast.tw14172339166382584184:True:=trivial
theorem PySem.W.Fast.tw16244208846396589464:True:=trivial
theorem PySem.W.Fast.tw13049936676353787896:True:=trivial
theorem PySem.W.Fast.tw11758318602380116185:True:=trivial
theorem PySem.W.Fast.tw18328797221909616921:True:=trivial
theorem PySem.W.Fast.tw2375031407352802681:True:=trivial
theorem PySem.W.Fast.tw2007934796282632729:True:=trivial
theorem PySem.W.Fast.tw3495348341722275481:True:=trivial
theorem PySem.W.Fast.tw4379285793994924761:True:=trivial
theorem PySem.W.Fast.tw15554509251330567065:True:=trivial
theorem PySem.W.Fast.te12100062750430535770:True:=trivial
theorem PySem.W.Fast.tw8832418079481971834:True:=trivial
theorem PySem.W.Fast.tw5777342733089486106:True:=trivial
theorem PySem.W.Fast.tw7946115103772706202:True:=trivial
theorem PySem.W.Fast.tw8325129729283598074:True:=trivial
theorem PySem.W.Fast.tw7817849791824515195:True:=trivial
theorem PySem.W.Fast.tw14608424661429419355:True:=trivial
theorem PySem.W.Fast.tw12358857716685510139:True:=trivial
theorem PySem.W.Fast.tw4013644630406982267:True:=trivial
theorem PySem.W.Fast.tw11311234949764990076:True:=trivial
theorem PySem.W.Fast.tw11806615713643323900:True:=trivial
theorem PySem.W.Fast.tw8160418146233597532:True:=trivial
theorem PySem.W.Fast.tw18345480344302465692:True:=trivial
theorem PySem.W.Fast.tw2695126446321315548:True:=trivial
theorem PySem.W.Fast.tw15433896849725234044:True:=trivial
theorem PySem.W.Fast.tw12125372394607158333:True:=trivial
theorem PySem.W.Fast.tw6824436983750620445:True:=trivial
theorem PySem.W.Fast.tw1066712618935524797:True:=trivial
theorem PySem.W.Fast.tw16787091183760459229:True:=trivial
theorem PySem.W.Fast.tw17216315373007697373:True:=trivial
theorem PySem.W.Fast.tw1409195363112338941:True:=trivial
theorem PySem.W.Fast.tw12984557712720249341:True:=trivial
theorem PySem.W.Fast.tw11742818030736812701:True:=trivial
theorem PySem.W.Fast.tw6203848712420969309:True:=trivial
theorem PySem.W.Fast.tw16302014945784490877:True:=trivial
theorem PySem.W.Fast.tw5147645757910857918:True:=trivial
theorem PySem.W.Fast.tw11342519107858221278:True:=trivial
theorem PySem.W.Fast.tw303195103909557566:True:=trivial
theorem PySem.W.Fast.tw17687693373348147678:True:=trivial
theorem PySem.W.Fast.tw17862654519942217182:True:=trivial
theorem PySem.W.Fast.tw12185367024790430206:True:=trivial
theorem PySem.W.Fast.tw5371497357184178846:True:=trivial
theorem PySem.W.Fast.tw16037025050177048382:True:=trivial
theorem PySem.W.Fast.tw7335895035346086975:True:=trivial
theorem PySem.W.Fast.tw16436954424459018399:True:=trivial
theorem PySem.W.Fast.tw5490940074225469695:True:=trivial
theorem PySem.W.Fast.tw11918937395662302463:True:=trivial
theorem PySem.W.Fast.tw6878190446678075135:True:=trivial
theorem PySem.W.Fast.tw4069635764177840959:True:=trivial
theorem PySem.W.Fast.tw16889732688370461599:True:=trivial
def PySem.W.Fast.tw950904348106846871:=PySem.Challenge.pw_onceround_k39_whole_rings_numbered
theorem PySem.W.Fast.te950904348106846871:PySem.Challenge.pw_onceround_k39_whole_rings_numbered=PySem.W.Fast.tw950904348106846871:=rfl
end
open PySem PySem.W PyProof.Rows
set_option maxRecDepth 100000 in
set_option maxHeartbeats 0 in
theorem PySem.Challenge.cw_onceround_k39_whole_rings_numbered_holds : PySem.Challenge.rw_onceround_k39_whole_rings_numbered.Holds := by
  w_on; o_law; k_head; (case hw => w_witness2)
  k_fill
  refine K39.walk (l := PySem.Challenge.rw_onceround_k39_whole_rings_numbered) rfl rfl (fun w h Y => PySem.W.kIn_of Y) ?F
  case F =>
    intro w mg fa h KX G hmg
    refine' K39.all_mk KX G hmg ?a_0 ?l_0 ?c_0 ?k_0 ?a_1 ?l_1 ?c_1 ?k_1 ?a_2 ?l_2 ?c_2 ?k_2 ?a_3 ?l_3 ?c_3 ?k_3 ?a_4 ?l_4 ?c_4 ?k_4 ?a_5 ?l_5 ?c_5 ?k_5 ?a_6 ?l_6 ?c_6 ?k_6 ?a_7 ?l_7 ?c_7 ?k_7 ?a_8 ?l_8 ?c_8 ?k_8 ?a_9 ?l_9 ?c_9 ?k_9 ?a_10 ?l_10 ?c_10 ?k_10 ?a_11 ?l_11 ?c_11 ?k_11 ?a_12 ?l_12 ?c_12 ?k_12 ?a_13 ?l_13 ?c_13 ?k_13 ?a_14 ?l_14 ?c_14 ?k_14 ?a_15 ?l_15 ?c_15 ?k_15 ?i_Web_init ?a_16 ?l_16 ?c_16 ?k_16 ?a_17 ?l_17 ?c_17 ?k_17 ?a_18 ?l_18 ?c_18 ?k_18 ?a_19 ?l_19 ?c_19 ?k_19 ?a_20 ?l_20 ?c_20 ?k_20 ?a_21 ?l_21 ?c_21 ?k_21 ?a_22 ?l_22 ?c_22 ?k_22 ?a_23 ?l_23 ?c_23 ?k_23 ?a_24 ?l_24 ?c_24 ?k_24 ?a_25 ?l_25 ?c_25 ?k_25 ?a_26 ?l_26 ?c_26 ?k_26 ?a_27 ?l_27 ?c_27 ?k_27 ?a_28 ?l_28 ?c_28 ?k_28 ?a_29 ?l_29 ?c_29 ?k_29 ?a_30 ?l_30 ?c_30 ?k_30 ?a_31 ?l_31 ?c_31 ?k_31 ?a_32 ?l_32 ?c_32 ?k_32 ?a_33 ?l_33 ?c_33 ?k_33 ?a_34 ?l_34 ?c_34 ?k_34 ?a_35 ?l_35 ?c_35 ?k_35 ?a_36 ?l_36 ?c_36 ?k_36 ?a_37 ?l_37 ?c_37 ?k_37 ?a_38 ?l_38 ?c_38 ?k_38 ?a_39 ?l_39 ?c_39 ?k_39 ?z_abs ?z_bool ?z_enumerate ?z_int ?z_isinstance ?z_len ?z_list ?z_min ?z_range ?z_set ?z_sorted ?z_str ?z_sum ?z_tuple ?z_zip ?y_BadKinds ?y_BadWord ?y_TooMany ?y_NoSuch ?y_NotOne ?y_Web ?y_KNOWN_TIMES ?e_BadKinds ?e_BadWord ?e_TooMany ?e_NoSuch ?e_NotOne ?g_FIRST_PRIME ?r_FIRST_PRIME ?g_STEP ?r_STEP ?g_LETTERS ?r_LETTERS ?g_LONGEST ?r_LONGEST ?g_MOST_OF_A_WEB ?r_MOST_OF_A_WEB ?g_LONGEST_OF_A_WEB ?r_LONGEST_OF_A_WEB ?kt ?pg_Web ?hd_Web ?po_Web ?sa_Web ?mk_Web ?kc_Web ?na_Web_words ?na_Web_length
    (case y_Web => k_is)
    (case a_0 => k_is)
    (case l_0 => k_is)
    (case c_0 => k_is)
    (case k_0 => k_is)
    (case a_1 => k_is)
    (case l_1 => k_is)
    (case c_1 => k_is)
    (case k_1 => k_is)
    (case a_2 => k_is)
    (case l_2 => k_is)
    (case c_2 => k_is)
    (case k_2 => k_is)
    (case a_3 => k_is)
    (case l_3 => k_is)
    (case c_3 => k_is)
    (case k_3 => k_is)
    (case a_4 => k_is)
    (case l_4 => k_is)
    (case c_4 => k_is)
    (case k_4 => k_is)
    (case a_5 => k_is)
    (case l_5 => k_is)
    (case c_5 => k_is)
    (case k_5 => k_is)
    (case a_6 => k_is)
    (case l_6 => k_is)
    (case c_6 => k_is)
    (case k_6 => k_is)
    (case a_7 => k_is)
    (case l_7 => k_is)
    (case c_7 => k_is)
    (case k_7 => k_is)
    (case a_8 => k_is)
    (case l_8 => k_is)
    (case c_8 => k_is)
    (case k_8 => k_is)
    (case a_9 => k_is)
    (case l_9 => k_is)
    (case c_9 => k_is)
    (case k_9 => k_is)
    (case a_10 => k_is)
    (case l_10 => k_is)
    (case c_10 => k_is)
    (case k_10 => k_is)
    (case a_11 => k_is)
    (case l_11 => k_is)
    (case c_11 => k_is)
    (case k_11 => k_is)
    (case a_12 => k_is)
    (case l_12 => k_is)
    (case c_12 => k_is)
    (case k_12 => k_is)
    (case a_13 => k_is)
    (case l_13 => k_is)
    (case c_13 => k_is)
    (case k_13 => k_is)
    (case a_14 => k_is)
    (case l_14 => k_is)
    (case c_14 => k_is)
    (case k_14 => k_is)
    (case a_15 => k_is)
    (case l_15 => k_is)
    (case c_15 => k_is)
    (case k_15 => k_is)
    (case a_16 => k_is)
    (case l_16 => k_is)
    (case c_16 => k_is)
    (case k_16 => k_is)
    (case a_17 => k_is)
    (case l_17 => k_is)
    (case c_17 => k_is)
    (case k_17 => k_is)
    (case a_18 => k_is)
    (case l_18 => k_is)
    (case c_18 => k_is)
    (case k_18 => k_is)
    (case a_19 => k_is)
    (case l_19 => k_is)
    (case c_19 => k_is)
    (case k_19 => k_is)
    (case a_20 => k_is)
    (case l_20 => k_is)
    (case c_20 => k_is)
    (case k_20 => k_is)
    (case a_21 => k_is)
    (case l_21 => k_is)
    (case c_21 => k_is)
    (case k_21 => k_is)
    (case a_22 => k_is)
    (case l_22 => k_is)
    (case c_22 => k_is)
    (case k_22 => k_is)
    (case a_23 => k_is)
    (case l_23 => k_is)
    (case c_23 => k_is)
    (case k_23 => k_is)
    (case a_24 => k_is)
    (case l_24 => k_is)
    (case c_24 => k_is)
    (case k_24 => k_is)
    (case a_25 => k_is)
    (case l_25 => k_is)
    (case c_25 => k_is)
    (case k_25 => k_is)
    (case a_26 => k_is)
    (case l_26 => k_is)
    (case c_26 => k_is)
    (case k_26 => k_is)
    (case a_27 => k_is)
    (case l_27 => k_is)
    (case c_27 => k_is)
    (case k_27 => k_is)
    (case a_28 => k_is)
    (case l_28 => k_is)
    (case c_28 => k_is)
    (case k_28 => k_is)
    (case a_29 => k_is)
    (case l_29 => k_is)
    (case c_29 => k_is)
    (case k_29 => k_is)
    (case a_30 => k_is)
    (case l_30 => k_is)
    (case c_30 => k_is)
    (case k_30 => k_is)
    (case a_31 => k_is)
    (case l_31 => k_is)
    (case c_31 => k_is)
    (case k_31 => k_is)
    (case a_32 => k_is)
    (case l_32 => k_is)
    (case c_32 => k_is)
    (case k_32 => k_is)
    (case a_33 => k_is)
    (case l_33 => k_is)
    (case c_33 => k_is)
    (case k_33 => k_is)
    (case a_34 => k_is)
    (case l_34 => k_is)
    (case c_34 => k_is)
    (case k_34 => k_is)
    (case a_35 => k_is)
    (case l_35 => k_is)
    (case c_35 => k_is)
    (case k_35 => k_is)
    (case a_36 => k_is)
    (case l_36 => k_is)
    (case c_36 => k_is)
    (case k_36 => k_is)
    (case a_37 => k_is)
    (case l_37 => k_is)
    (case c_37 => k_is)
    (case k_37 => k_is)
    (case a_38 => k_is)
    (case l_38 => k_is)
    (case c_38 => k_is)
    (case k_38 => k_is)
    (case a_39 => k_is)
    (case l_39 => k_is)
    (case c_39 => k_is)
    (case k_39 => k_is)
    (case z_abs => k_is)
    (case z_bool => k_is)
    (case z_enumerate => k_is)
    (case z_int => k_is)
    (case z_isinstance => k_is)
    (case z_len => k_is)
    (case z_list => k_is)
    (case z_min => k_is)
    (case z_range => k_is)
    (case z_set => k_is)
    (case z_sorted => k_is)
    (case z_str => k_is)
    (case z_sum => k_is)
    (case z_tuple => k_is)
    (case z_zip => k_is)
    (case y_BadKinds => k_is)
    (case y_BadWord => k_is)
    (case y_TooMany => k_is)
    (case y_NoSuch => k_is)
    (case y_NotOne => k_is)
    (case y_KNOWN_TIMES => k_is)
    (case e_BadKinds => kernel_rfl)
    (case e_BadWord => kernel_rfl)
    (case e_TooMany => kernel_rfl)
    (case e_NoSuch => kernel_rfl)
    (case e_NotOne => kernel_rfl)
    (case g_FIRST_PRIME => k_is)
    (case r_FIRST_PRIME => exact ⟨_, rfl⟩)
    (case g_STEP => k_is)
    (case r_STEP => exact ⟨_, rfl⟩)
    (case g_LETTERS => k_is)
    (case r_LETTERS => exact ⟨_, rfl⟩)
    (case g_LONGEST => k_is)
    (case r_LONGEST => exact ⟨_, rfl⟩)
    (case g_MOST_OF_A_WEB => k_is)
    (case r_MOST_OF_A_WEB => exact ⟨_, rfl⟩)
    (case g_LONGEST_OF_A_WEB => k_is)
    (case r_LONGEST_OF_A_WEB => exact ⟨_, rfl⟩)
    (case kt => kernel_rfl)
    (case pg_Web => k_is)
    (case hd_Web => k_is)
    (case po_Web => k_is)
    (case sa_Web => k_is)
    (case mk_Web => k_is)
    (case kc_Web => k_is)
    (case na_Web_words => k_is)
    (case na_Web_length => k_is)
    (case i_Web_init => k_is)
#print axioms PySem.Challenge.cw_onceround_k39_whole_rings_numbered_holds
