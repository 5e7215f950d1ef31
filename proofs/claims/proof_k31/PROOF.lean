import PyProof.Rows.All
import Wide.All
import OpenK.AllK
import Wide.FinOn
import Lean
import PyProof.EqAt
import PyProof.EqKinds
import PyProof.TupleCall
import PySem.Challenge.RW_onceround_k31_trees_counted_by_trial
set_option genSizeOfSpec false
set_option bootstrap.genMatcherCode false
set_option Elab.async false
set_option linter.all false
set_option maxRecDepth 100000
set_option maxHeartbeats 4000000
noncomputable section
namespace L2
open PySem PySem.Spec PyProof.Rows
abbrev Key:=Sum Int Str
def pJ:Key->Value->Bool
 | .inl k,v=>Value.isInt k v
 | .inr x,v=>Value.isStrOf x v
def Qb (w:World):Key->Int
 | .inl k=>hashInt k
 | .inr x=>hashStr w x
theorem cO:∀ {k:Key} {v:Value},pJ k v=true->(∃ i t,k=Sum.inl i∧v=Value.int i t)∨(∃ x t,k=Sum.inr x∧v=Value.str x t)
 | .inl i,v,h=>by
  obtain ⟨t,e⟩:=Value.isInt_shape (k:=i) (v:=v) h
  exact .inl ⟨i,t,rfl,e⟩
 | .inr x,v,h=>by
  obtain ⟨t,e⟩:=Value.isStrOf_shape (x:=x) (v:=v) h
  exact .inr ⟨x,t,rfl,e⟩
theorem Bf (i:Int)(t:Tok):pJ (.inl i) (.int i t)=true:=by simp [pJ,Value.isInt]
theorem Bm (x:Str)(t:Tok):pJ (.inr x) (.str x t)=true:=by simp [pJ,Value.isStrOf]
theorem Ku (a b:Int):decide ((Sum.inl a:Key)=Sum.inl b)=(a==b):=by
 by_cases e:a=b
 ·subst e;simp
 ·have h:¬ (Sum.inl a:Key)=Sum.inl b:=fun q=>e (Sum.inl.inj q)
  rw [decide_eq_false h]
  exact (beq_eq_false_iff_ne.mpr e).symm
theorem Mj (a b:Str):decide ((Sum.inr a:Key)=Sum.inr b)=decide (a=b):=by
 by_cases e:a=b
 ·subst e;simp
 ·have h:¬ (Sum.inr a:Key)=Sum.inr b:=fun q=>e (Sum.inr.inj q)
  rw [decide_eq_false h,decide_eq_false e]
theorem Ms (a:Int)(b:Str):decide ((Sum.inl a:Key)=Sum.inr b)=false:=decide_eq_false (fun q=>nomatch q)
theorem Kl (a:Str)(b:Int):decide ((Sum.inr a:Key)=Sum.inl b)=false:=decide_eq_false (fun q=>nomatch q)
def bN (prog:Program)(w:World):PySem.KeyKind prog w Key where
 is:=pJ
 hash:=Qb w
 inj:=fun v a b ha hb=>by
  rcases cO ha with ⟨i,t,rfl,rfl⟩ | ⟨x,t,rfl,rfl⟩
  ·rcases cO hb with ⟨j,u,rfl,e⟩ | ⟨y,u,rfl,e⟩
   ·injection e with e1 _;rw [e1]
   ·exact nomatch e
  ·rcases cO hb with ⟨j,u,rfl,e⟩ | ⟨y,u,rfl,e⟩
   ·exact nomatch e
   ·injection e with e1 _;rw [e1]
 byValue:=fun k v h=>by
  rcases cO h with ⟨i,t,rfl,rfl⟩ | ⟨x,t,rfl,rfl⟩ <;> rfl
 pyHash:=fun hv h=>by
  rcases cO hv with ⟨i,t,rfl,rfl⟩ | ⟨x,t,rfl,rfl⟩
  ·exact wpAny_pyHash_int h
  ·exact wpAny_pyHash_str h
 eqBool:=fun hu hv h=>by
  rcases cO hu with ⟨i,t,rfl,rfl⟩ | ⟨x,t,rfl,rfl⟩
  ·rcases cO hv with ⟨j,u,rfl,rfl⟩ | ⟨y,u,rfl,rfl⟩
   ·rw [Ku] at h;exact wpAny_eqBool_int h
   ·rw [Ms] at h;exact SeqAt.EqAt.int_str i t y u _ _ _ _ h
  ·rcases cO hv with ⟨j,u,rfl,rfl⟩ | ⟨y,u,rfl,rfl⟩
   ·rw [Kl] at h;exact SeqAt.EqAt.str_int x t j u _ _ _ _ h
   ·rw [Mj] at h;exact wpAny_eqBool_str h
 «strs» := fun k x t v h=>by
  rcases cO h with ⟨i,u,rfl,e⟩ | ⟨y,u,rfl,e⟩
  ·exact nomatch e
  ·injection e with e1 _
   subst e1
   cases v <;> rfl
theorem uS (prog:Program)(w:World)(i:Int)(t:Tok):(bN prog w).is (.inl i) (.int i t)=true:=Bf i t
theorem vC (prog:Program)(w:World)(x:Str)(t:Tok):(bN prog w).is (.inr x) (.str x t)=true:=Bm x t
end L2
namespace L2
open PySem PySem.Spec PyProof.Rows
inductive V where
 | non | bl (b:Bool) | int (i:Int) | str (x:Str) | byt (b:Array UInt8) | flt (b:UInt64) | ref (a:Addr) | ty (n:String)
 deriving DecidableEq
def bJ:V->Value->Prop
 | .non,u=>u=Value.none
 | .bl b,u=>u=Value.bool b
 | .int i,u=>∃ t,u=Value.int i t
 | .str x,u=>∃ t,u=Value.str x t
 | .byt b,u=>∃ t,u=Value.bytes b t
 | .flt b,u=>∃ t,u=Value.float b t
 | .ref a,u=>u=Value.ref a
 | .ty n,u=>u=Value.type n
abbrev bX:List V->List Value->Prop:=Paired bJ
theorem bX.length {xs:List V}{us:List Value}(r:bX xs us):xs.length=us.length:=Paired.length r
theorem bX.get:∀ {xs:List V} {us:List Value} {i:Nat} {x:V},bX xs us->xs[i]?=some x->∃ u,us[i]?=some u∧bJ x u
 | _,_,_,_,.nil,e=>by simp at e
 | _,_,0,_,.cons r _,e=>by simp at e;subst e;exact ⟨_,rfl,r⟩
 | _,_,i+1,x,.cons _ t,e=>by
  obtain ⟨u,h1,h2⟩:=bX.get (i:=i) (x:=x) t (by simpa using e)
  exact ⟨u,by simpa using h1,h2⟩
theorem bX.append:∀ {xs ys:List V} {us ws:List Value},bX xs us->bX ys ws->bX (xs++ys) (us++ws)
 | _,_,_,_,.nil,s=>s
 | _,_,_,_,.cons r t,s=>.cons r (bX.append t s)
theorem bX.take:∀ {xs:List V} {us:List Value} (n:Nat),bX xs us->bX (xs.take n) (us.take n)
 | _,_,0,_=>.nil
 | _,_,_+1,.nil=>.nil
 | _,_,n+1,.cons r t=>.cons r (bX.take n t)
theorem bX.drop:∀ {xs:List V} {us:List Value} (n:Nat),bX xs us->bX (xs.drop n) (us.drop n)
 | _,_,0,r=>r
 | _,_,_+1,.nil=>.nil
 | _,_,n+1,.cons _ t=>bX.drop n t
def iQ:Option V->Option Value->Prop
 | some v,some u=>bJ v u
 | none,none=>True
 | _,_=>False
def KV {κ:Type}:List (κ×V)->List (κ×Value)->Prop:=Paired fun (p:κ×V) (q:κ×Value)=>p.1=q.1∧bJ p.2 q.2
def kV:Key->V
 | .inl i=>.int i
 | .inr x=>.str x
inductive HO where
 | lst (xs:List V)
 | tup (xs:List V)
 | dK (kvs:List (Key×V)) | dT (kvs:List (List Key×V))
 | set (S:Int->Bool) (n:Nat)
 | ins (C dx:Addr) (fs:List (Str×V))
 | own (x:Addr)
 | xd (fs:List (Str×V))
 | met (f x:Addr)
 | rng (lo hi:Int)
 | frz (o:Obj) (u:HO)
 | tbl (ps:Array Value)
 | ext (φ:Heap->Prop)
abbrev Hp:=Addr->Option HO
def upd (H:Hp)(a:Addr)(o:HO):Hp:=fun b=>if b=a then some o else H b
theorem aC {H:Hp}{a:Addr}{o:HO}:upd H a o a=some o:=by unfold upd;rw [if_pos rfl]
theorem aI {H:Hp}{a b:Addr}{o:HO}(h:b≠a):upd H a o b=H b:=by unfold upd;rw [if_neg h]
theorem zX {H:Hp}{a:Addr}{o u:HO}:upd (upd H a o) a u=upd H a u:=by
 funext b;unfold upd;split <;> rfl
theorem Oe {H:Hp}{a b:Addr}{o u:HO}(h:H a=some o)(h':H b=some u)(d:o≠u):a≠b:=by
 intro e;subst e;rw [h] at h';exact d (Option.some.inj h')
theorem aK {H:Hp}{a b:Addr}{o:HO}(h:H a=some o)(h':H b=none):a≠b:=by
 intro e;subst e;rw [h] at h';cases h'
section
variable (P:Program)(w:World)
def cG (H:Hp)(h:Heap)(a:Addr):HO->Prop
 | .lst xs=>xs.length<=sizeLine∧∃ (its:List Value) (n:Nat),bX xs its∧h.get? a=some { cls:=.type "list",data:=.seq its.toArray n }
 | .tup xs=>xs.length<=sizeLine∧∃ its:List Value,bX xs its∧IsTup h a its.toArray
 | .dK kvs=>kvs.length<=sizeLine∧(a==sysModules)=false∧∃ vs,KV kvs vs∧h.DictOf (bN P w) a vs
 | .dT kvs=>kvs.length<=sizeLine∧(a==sysModules)=false∧∃ xs:List (List Key×Addr×Value),
  Paired (fun (p:List Key×V) (q:List Key×Addr×Value)=>p.1=q.1∧H q.2.1=some (.tup (p.1.map kV))∧bJ p.2 q.2.2) kvs xs ∧
  ∃ o es ep,h.get? a=some o∧o.ExactDict∧o.data = .dict es ep∧es.toList=xs.map (entryOfKey (tupleKind (bN P w)))∧(xs.map (·.1)).Nodup
 | .set S n=>h.SetOf (intKind P w) a S n
 | .ins C dx fs=>H dx=some (.own a)∧fs.length<=1000∧dx≠a∧h.get? a=some (PySem.W.instObj C dx) ∧
  ∃ mA,h.Ns1 dx mA∧(∀ f,iQ (fs.lookup f) (mA f))∧PySem.Within mA (fs.map (·.1))
 | .own _=>∃ o,h.get? a=some o
 | .xd fs=>∃ mA,h.Ns1 a mA∧∀ f,iQ (fs.lookup f) (mA f)
 | .rng lo hi=>∃ t u v,h.get? a=some { cls:=.type "range",data:=.fields #[.int lo t,.int hi u,.int 1 v] }
 | .frz o u=>h.get? a=some o∧cG H h a u
 | .tbl ps=>h.get? a=some { cls:=.none,data:=.fields ps }
 | .met f x=>h.get? a=some (PySem.W.methodObj (.ref f) (.ref x))
 | .ext φ=>φ h∧(∃ o,h.get? a=some o)∧∀ h1 h2:Heap,φ h1->(∀ o,h1.get? a=some o->h2.get? a=some o)->φ h2
def HOk (H:Hp)(h:Heap):Prop:=∀ a o,H a=some o->cG P w H h a o
end
section
variable {P:Program}{w:World}{H H':Hp}{h h':Heap}{a:Addr}{o:HO}
theorem cG.lt (x:cG P w H h a o):a<h.objs.size:=by
 cases o with
 | lst xs=>obtain ⟨_,_,_,_,e⟩:=x;exact Heap.lt_size e
 | tup xs=>obtain ⟨_,_,_,p⟩:=x;exact p.lt
 | dK kvs=>obtain ⟨_,_,_,_,o,_,_,e,_⟩:=x;exact Heap.lt_size e
 | dT kvs=>obtain ⟨_,_,_,_,o,_,_,e,_⟩:=x;exact Heap.lt_size e
 | set S n=>obtain ⟨o,_,_,_,e,_⟩:=x;exact Heap.lt_size e
 | ins C dx fs=>obtain ⟨_,_,_,e,_⟩:=x;exact Heap.lt_size e
 | own y=>obtain ⟨_,e⟩:=x;exact Heap.lt_size e
 | xd fs=>obtain ⟨_,⟨_,_,_,e,_⟩,_⟩:=x;exact Heap.lt_size e
 | rng lo hi=>obtain ⟨_,_,_,e⟩:=x;exact Heap.lt_size e
 | frz ob u=>obtain ⟨e,_⟩:=x;exact Heap.lt_size e
 | tbl ps=>exact Heap.lt_size (show h.get? a=some _ from x)
 | met f y=>exact Heap.lt_size (show h.get? a=some _ from x)
 | ext φ=>obtain ⟨_,⟨_,e⟩,_⟩:=x;exact Heap.lt_size e
theorem Paired.mapP {α β:Type}{F G:α->β->Prop}:∀ {l₁:List α} {l₂:List β},Paired F l₁ l₂->(∀ a b,F a b->G a b)->Paired G l₁ l₂
 | _,_,.nil,_=>.nil
 | _,_,.cons r t,f=>.cons (f _ _ r) (Paired.mapP t f)
theorem cG.stay (x:cG P w H h a o)(k:∀ b u,(b=a∨H b=some (.own a))->h.get? b=some u->h'.get? b=some u)
  (ho:∀ b,H b=some (.own a)->H' b=some (.own a)) (ht:∀ b xs,H b=some (.tup xs)->H' b=some (.tup xs)):cG P w H' h' a o:=by
 induction o with
 | lst xs=>obtain ⟨z,its,n,r,e⟩:=x;exact ⟨z,its,n,r,k _ _ (.inl rfl) e⟩
 | tup xs=>obtain ⟨z,its,r,ob,e,c⟩:=x;exact ⟨z,its,r,ob,k _ _ (.inl rfl) e,c⟩
 | dK kvs=>obtain ⟨z,y,vs,r,ob,es,ep,e,c⟩:=x;exact ⟨z,y,vs,r,ob,es,ep,k _ _ (.inl rfl) e,c⟩
 | dT kvs =>
  obtain ⟨z,y,xs,r,ob,es,ep,e,c⟩:=x
  exact ⟨z,y,xs,Paired.mapP r fun p q z=>⟨z.1,ht _ _ z.2.1,z.2.2⟩,ob,es,ep,k _ _ (.inl rfl) e,c⟩
 | set S n=>obtain ⟨ob,es,ep,t,e,c⟩:=x;exact ⟨ob,es,ep,t,k _ _ (.inl rfl) e,c⟩
 | ins C dx fs =>
  obtain ⟨d,z,ne,e,mA,⟨od,es,ep,e2,c⟩,r⟩:=x
  exact ⟨ho _ d,z,ne,k _ _ (.inl rfl) e,mA,⟨od,es,ep,k _ _ (.inr d) e2,c⟩,r⟩
 | own y=>obtain ⟨ob,e⟩:=x;exact ⟨ob,k _ _ (.inl rfl) e⟩
 | xd fs=>obtain ⟨mA,⟨od,es,ep,e,c⟩,r⟩:=x;exact ⟨mA,⟨od,es,ep,k _ _ (.inl rfl) e,c⟩,r⟩
 | rng lo hi=>obtain ⟨t,u,v,e⟩:=x;exact ⟨t,u,v,k _ _ (.inl rfl) e⟩
 | frz ob u ih=>obtain ⟨e,q⟩:=x;exact ⟨k _ _ (.inl rfl) e,ih q⟩
 | tbl ps =>
  have e:h.get? a=some { cls:=.none,data:=.fields ps }:=x
  show h'.get? a=some { cls:=.none,data:=.fields ps }
  exact k a _ (.inl rfl) e
 | met f y =>
  have e:h.get? a=some (PySem.W.methodObj (.ref f) (.ref y)):=x
  show h'.get? a=some (PySem.W.methodObj (.ref f) (.ref y))
  exact k a _ (.inl rfl) e
 | ext φ=>obtain ⟨p,⟨o,e⟩,st⟩:=x;exact ⟨st _ _ p fun o q=>k _ _ (.inl rfl) q,⟨o,k _ _ (.inl rfl) e⟩,st⟩
theorem HOk.lt (x:HOk P w H h)(e:H a=some o):a<h.objs.size:=(x a o e).lt
theorem HOk.fresh (x:HOk P w H h)(e:h.objs.size<=a):H a=none:=by
 cases q:H a with
 | none=>rfl
 | some u=>exact absurd (Nat.lt_of_lt_of_le (x.lt q) e) (Nat.lt_irrefl _)
theorem HOk.kept (x:HOk P w H h)(k:∀ b u,h.get? b=some u->h'.get? b=some u):HOk P w H h':=fun a o e =>
 (x a o e).stay (fun b u _ q=>k b u q) (fun _ q=>q) fun _ _ q=>q
theorem HOk.laid (x:HOk P w H h)(k:∀ b u,h.get? b=some u->h'.get? b=some u)(hp:h.objs.size<=a)(new:cG P w (upd H a o) h' a o):HOk P w (upd H a o) h':=fun b u e=>by
 have hn:=x.fresh hp
 by_cases hb:b=a
 ·subst hb;rw [aC] at e;cases e;exact new
 ·rw [aI hb] at e
  exact (x b u e).stay (fun c v _ q=>k c v q) (fun c q=>by rw [aI (aK q hn)];exact q) fun c xs q=>by rw [aI (aK q hn)];exact q
end
def Rd (H:Hp)(a:Addr)(u:HO):Prop:=H a=some u∨∃ o,H a=some (.frz o u)
theorem Rd.ok {P:Program}{w:World}{H:Hp}{h:Heap}{a:Addr}{u:HO}(r:Rd H a u)(x:HOk P w H h):cG P w H h a u:=by
 rcases r with r | ⟨o,r⟩
 ·exact x a u r
 ·obtain ⟨_,q⟩:=x a _ r
  exact q
def Mut:Option HO->Prop
 | some (.lst _)=>True
 | some (.dK _)=>True
 | some (.dT _)=>True
 | some (.set _ _)=>True
 | some (.ins _ _ _)=>True
 | some (.ext _)=>True
 | _=>False
section
variable {P:Program}{w:World}{H:Hp}{h h':Heap}{x e:Addr}{o':HO}
theorem HOk.write (ok:HOk P w H h)(mu:Mut (H x))(he:e=x∨H e=some (.own x))(k:∀ b u,b≠e->h.get? b=some u->h'.get? b=some u)(heo:∃ u,h'.get? e=some u)
  (new:cG P w (upd H x o') h' x o'):HOk P w (upd H x o') h':=fun b u q=>by
 have nown:∀ c y,H c=some (.own y)->c≠x:=fun c y r z=>by subst z;rw [r] at mu;exact mu
 have ntup:∀ c xs,H c=some (.tup xs)->c≠x:=fun c xs r z=>by subst z;rw [r] at mu;exact mu
 by_cases hb:b=x
 ·subst hb;rw [aC] at q;cases q;exact new
 ·rw [aI hb] at q
  by_cases hbe:b=e
  ·have q':H b=some (.own x):=by
    rcases he with z | z
    ·exact absurd (hbe.trans z) hb
    ·rw [hbe];exact z
   rw [q] at q';cases q'
   obtain ⟨v,hv⟩:=heo
   exact ⟨v,by rw [hbe];exact hv⟩
  ·refine (ok b u q).stay (fun c v hc r=>k c v ?_ r) (fun c r=>by rw [aI (nown c b r)];exact r) fun c xs r=>by rw [aI (ntup c xs r)];exact r
   rcases hc with rfl | hc
   ·exact hbe
   ·rintro rfl
    rcases he with z | z
    ·exact nown c b hc z
    ·rw [hc] at z;cases z;exact hb rfl
end
set_option genInjectivity false in
structure Un (fs ex:List Addr)(H H':Hp)(h h':Heap):Prop where
 keep:∀ b o,h.get? b=some o->H b=none->b∉fs->b∉ex->h'.get? b=some o
 slot:∀ b o,h.get? b=some o->H b=none->b∈fs->b∉ex->∃ sl,h'.get? b=some { o with slots:=sl }
 free:∀ b o,h.get? b=some o->H b=none->b∉ex->H' b=none
 there:∀ b o,h.get? b=some o->b∉ex->∃ o',h'.get? b=some o'
 tups:∀ b xs,H b=some (.tup xs)->H' b=some (.tup xs)
 frzs:∀ b o u,H b=some (.frz o u)->H' b=some (.frz o u)
 tbls:∀ b ps,H b=some (.tbl ps)->∃ more,H' b=some (.tbl (ps++more))
section
variable {fs fs' ex ex':List Addr}{H H1 H2:Hp}{h h1 h2 h':Heap}{a x e:Addr}{o:HO}
theorem Un.any (u:Un fs ex H H1 h h1){b:Addr}{ob:Obj}(q:h.get? b=some ob)(n:H b=none)(hx:b∉ex):∃ sl,h1.get? b=some { ob with slots:=sl }:=by
 by_cases hb:b∈fs
 ·exact u.slot b ob q n hb hx
 ·exact ⟨ob.slots,u.keep b ob q n hb hx⟩
theorem Un.kept (k:∀ b u,h.get? b=some u->h'.get? b=some u):Un fs ex H H h h' :=
 ⟨fun b ob q _ _ _=>k b ob q,fun b ob q _ _ _=>⟨ob.slots,k b ob q⟩,fun _ _ _ n _=>n,fun b ob q _=>⟨ob,k b ob q⟩,fun _ _ q=>q,fun _ _ _ q=>q,fun _ ps q=>⟨#[],by rw [q];simp⟩⟩
theorem Un.refl:Un fs ex H H h h:=Un.kept fun _ _ q=>q
theorem Un.laid (k:∀ b u,h.get? b=some u->h'.get? b=some u)(hp:h.objs.size<=a)(hn:H a=none):Un fs ex H (upd H a o) h h' where
 keep:=fun b u q _ _ _=>k b u q
 slot:=fun b u q _ _ _=>⟨u.slots,k b u q⟩
 free:=fun b u q n _=>by rw [aI (Nat.ne_of_lt (Nat.lt_of_lt_of_le (Heap.lt_size q) hp))];exact n
 there:=fun b u q _=>⟨u,k b u q⟩
 tups:=fun b xs q=>by rw [aI (aK q hn)];exact q
 frzs:=fun b u xs q=>by rw [aI (aK q hn)];exact q
 tbls:=fun b ps q=>⟨#[],by rw [aI (aK q hn),q];simp⟩
theorem Un.write (mu:Mut (H x))(he:e=x∨H e=some (.own x))(k:∀ b u,b≠e->h.get? b=some u->h'.get? b=some u)(heo:∃ u,h'.get? e=some u):Un fs ex H (upd H x o) h h':=by
 have hx:∀ b,H b=none->b≠x:=fun b n z=>by subst z;rw [n] at mu;exact mu
 have hb:∀ b,H b=none->b≠e:=fun b n z=>by
  subst z
  rcases he with r | r
  ·exact hx b n r
  ·rw [n] at r;cases r
 have hm:∀ b u,H b=some u->¬ Mut (some u)->b≠x:=fun b u q nm z=>by subst z;rw [q] at mu;exact nm mu
 refine ⟨fun b u q n _ _=>k b u (hb b n) q,fun b u q n _ _=>⟨u.slots,k b u (hb b n) q⟩,fun b u q n _=>by rw [aI (hx b n)];exact n,fun b u q _=>?_,
  fun b xs q=>by rw [aI (hm b _ q fun z=>z)];exact q,fun b u xs q=>by rw [aI (hm b _ q fun z=>z)];exact q,fun b ps q=>⟨#[],by rw [aI (hm b _ q fun z=>z),q];simp⟩⟩
 by_cases hbe:b=e
 ·subst hbe;exact heo
 ·exact ⟨u,k b u hbe q⟩
end
def trk (h:Heap)(H:Hp):List Addr:=(List.range h.objs.size).filter fun a=>(H a).isSome
def tP (h:Heap)(H:Hp):Heap:=PySem.W.hideAll h (trk h H)
theorem Cq (h:Heap)(H:Hp):(tP h H).objs.size=h.objs.size:=PySem.W.hideAll_size _ _
theorem Gd {h:Heap}{H:Hp}{b:Addr}{o:Obj}(e:h.get? b=some o)(n:H b=none):(tP h H).get? b=some o :=
 PySem.W.hideAll_get _ e fun hm=>by
  have q:(H b).isSome=true:=(List.mem_filter.mp hm).2
  rw [n] at q;simp at q
theorem Ic {h:Heap}{H:Hp}{b:Addr}{o:Obj}(e:(tP h H).get? b=some o):h.get? b=some o∧H b=none:=by
 have e':h.get? b=some o:=PySem.W.of_hideAll (trk h H) e
 refine ⟨e',?_⟩
 cases q:H b with
 | none=>rfl
 | some x =>
  have hm:b∈trk h H:=List.mem_filter.mpr ⟨List.mem_range.mpr (Heap.lt_size e'),by simp [q]⟩
  have z:(tP h H).get? b=none:=PySem.W.hideAll_none (trk h H) hm
  rw [z] at e;cases e
def Hz (g h:Heap)(L:Addr):List (Addr×Obj):=(List.range h.objs.size).filterMap fun a=>if a=L∨(g.get? a).isSome=true then none else (h.get? a).map fun o=>(a,o)
def rest (g h:Heap)(L d:Addr):List (Addr×Obj):=(Hz g h L).filter fun p=>decide (p.1≠d)
end L2
namespace L2
open PySem PySem.Spec PyProof.Rows
set_option genInjectivity false in
structure Mod (K:PySem.W.Frag)(mg:Str->Option Value)(base:Heap):Prop where
 kin:K.In base
 glob:base.Ns mainGlobals mg
 blt:∃ mb,base.Ns builtinsNs mb∧∀ x:Str,x ≠ "__name__" -> mb x=bootBuiltins x
 nolimit:base.NoLimit
set_option genInjectivity false in
structure Cx where
 prog:Program
 w:World
 K:PySem.W.Frag
 mg:Str->Option Value
 base:Heap
 A:Around
 N:List Str
 s₀:Shared
 H₀:Hp
 env:Env
 outer:List Env
 stack:List Env
 ex:List Addr
 fn:Str->Bool
 calm:Bool
 pn:List (Addr×Obj)
 xe:Value->Shared->Prop
def frs (l:List Env):List Addr:=l.filterMap (·.frame)
abbrev Cx.fs (X:Cx):List Addr:=frs X.outer
def Vis (sc:Scope)(x:Str):Prop:=sc.names.lookup x=some .local∨sc.names.lookup x=some .cell∨sc.names.lookup x=some .free
def Loc (sc:Scope)(x:Str):Prop:=sc.names.lookup x=some .local∨sc.names.lookup x=some .cell
def Qh (env:Env)(h:Heap)(m:Str->Option Value)(x:Str)(u:Value):Prop :=
 (env.kindOf x=some .local∧m x=some u)∨((env.kindOf x=some .cell∨env.kindOf x=some .free)∧∃ c,env.cells.lookup x=some c∧h.IsCell c (some u))
set_option genInjectivity false in
structure Cx.Ok (X:Cx):Prop where
 mod:Mod X.K X.mg X.base
 kind:X.env.scope.kind = .function
 glob:X.env.globals=mainGlobals
 blt:X.env.builtins=builtinsNs
 above:X.s₀.heap.objs.size<=X.env.locals
 inj:∀ x y c,X.env.cells.lookup x=some c->X.env.cells.lookup y=some c->x=y
 has:∀ x,(X.env.kindOf x=some .cell∨X.env.kindOf x=some .free)->∃ c,X.env.cells.lookup x=some c
 cab:∀ x c,X.fn x=true->X.env.cells.lookup x=some c->X.s₀.heap.objs.size<=c
 hd:X.calm=true->X.A.handled=none
 frames:X.A.frames=some X.stack
 stk:X.stack=X.outer∨(X.stack=X.env::X.outer∧X.env.frame=some X.env.locals)
 exf:∀ b∈X.ex,b≠X.env.locals∧∀ x c,X.env.cells.lookup x=some c->c≠b
 bs:∀ b o,X.base.get? b=some o->X.s₀.heap.get? b=some o∧X.H₀ b=none
 bsz:X.base.objs.size<=X.s₀.heap.objs.size
 noex:∀ b o,X.base.get? b=some o->b∉X.ex
 exfs:∀ b∈X.ex,b∉X.fs
 funs:X.s₀.heap.FunFrames X.base X.outer
 frf:∀ b∈X.fs,X.H₀ b=none
set_option genInjectivity false in
structure Inv (X:Cx)(pins:List (Addr×Obj))(σ:List (Option V))(H:Hp)(s:Shared):Prop where
 ok:X.Ok
 os:s.os=X.s₀.os
 bare:AllBare s.gens
 base:Un X.fs X.ex X.H₀ H X.s₀.heap s.heap
 loc:∃ m,s.heap.Ns X.env.locals m∧∀ (i:Nat) (x:Str) (v:V),X.N[i]?=some x->σ[i]?=some (some v)->Vis X.env.scope x->∃ u,bJ v u∧Qh X.env s.heap m x u
 cell:∀ x c,X.env.cells.lookup x=some c->∃ v,s.heap.IsCell c v
 free:H X.env.locals=none
 freeC:∀ x c,X.env.cells.lookup x=some c->H c=none
 pin:∀ p∈X.pn++pins,s.heap.get? p.1=some p.2∧H p.1=none∧p.1≠X.env.locals∧p.1∉X.fs∧∀ v,p.2.data≠.cell v
 hok:HOk X.prog X.w H s.heap
 len:σ.length=X.N.length
section
variable {X:Cx}{pins:List (Addr×Obj)}{σ:List (Option V)}{H H':Hp}{s:Shared}{h':Heap}
theorem Cx.Ok.nofr (ok:X.Ok){b:Addr}{o:Obj}(e:X.base.get? b=some o):b∉X.fs:=fun hb=>by
 have:=(ok.funs.mem hb).1
 rw [e] at this;cases this
theorem Inv.bs (I:Inv X pins σ H s):∀ b o,X.base.get? b=some o->s.heap.get? b=some o∧H b=none:=fun b o e =>
 ⟨I.base.keep b o (I.ok.bs b o e).1 (I.ok.bs b o e).2 (I.ok.nofr e) (I.ok.noex b o e),I.base.free b o (I.ok.bs b o e).1 (I.ok.bs b o e).2 (I.ok.noex b o e)⟩
theorem Inv.bk (I:Inv X pins σ H s):∀ b o,X.base.get? b=some o->s.heap.get? b=some o:=fun b o e=>(I.bs b o e).1
theorem Inv.mod (I:Inv X pins σ H s):Mod X.K X.mg X.base:=I.ok.mod
theorem Inv.kIn (I:Inv X pins σ H s):X.K.In s.heap:=I.ok.mod.kin.keeps I.bk
theorem Inv.lt (I:Inv X pins σ H s):X.env.locals<s.heap.objs.size:=let ⟨_,hn,_⟩:=I.loc;hn.lt
theorem Inv.sz (I:Inv X pins σ H s):X.s₀.heap.objs.size<=s.heap.objs.size:=Nat.le_trans I.ok.above (Nat.le_of_lt I.lt)
theorem Inv.nofs (I:Inv X pins σ H s){a:Addr}(h:s.heap.objs.size<=a):a∉X.fs:=fun hb=>by
 obtain ⟨_,o,ho,_⟩:=I.ok.funs.mem hb
 exact absurd (Nat.lt_of_lt_of_le (Heap.lt_size ho) (Nat.le_trans I.sz h)) (Nat.lt_irrefl _)
theorem Inv.cne (I:Inv X pins σ H s):∀ x c,X.env.cells.lookup x=some c->c≠X.env.locals:=fun x c e z=>by
 obtain ⟨v,o,ho,hd⟩:=I.cell x c e
 obtain ⟨m,⟨o',es,ep,ho',hd',_⟩,_⟩:=I.loc
 rw [z,ho'] at ho;cases ho;rw [hd'] at hd;cases hd
theorem Inv.funs (I:Inv X pins σ H s):s.heap.FunFrames X.base X.outer:=by
 have all:∀ (l:List Env),(∀ b∈frs l,b∈X.fs)->X.s₀.heap.FunFrames X.base l->s.heap.FunFrames X.base l:=by
  intro l
  induction l with
  | nil=>intro _ _;trivial
  | cons env r ih =>
   intro hs hl
   obtain ⟨hk,⟨L,o,hf,hn,ho,hd⟩,hr⟩:=hl
   have hL:L∈X.fs:=hs L (by unfold frs;rw [List.filterMap_cons,hf];exact List.mem_cons_self)
   obtain ⟨sl,e⟩:=I.base.slot L o ho (I.ok.frf L hL) hL fun z=>I.ok.exfs L z hL
   exact ⟨hk,⟨L,_,hf,hn,e,hd⟩,ih (fun b hb=>hs b (by unfold frs;rw [List.filterMap_cons,hf];exact List.mem_cons_of_mem _ hb)) hr⟩
 exact all X.outer (fun _ hb=>hb) I.ok.funs
theorem Inv.stack (I:Inv X pins σ H s):s.heap.FunFrames X.base X.stack:=by
 rcases I.ok.stk with e | ⟨e,hf⟩
 ·rw [e];exact I.funs
 ·rw [e]
  obtain ⟨m,hn,_⟩:=I.loc
  refine .cons (by rw [I.ok.kind];decide) hf hn ?_ I.funs
  exact Heap.get?_none_of_le (Nat.le_trans I.ok.bsz I.ok.above)
theorem Inv.stkSub (I:Inv X pins σ H s):∀ b∈frs X.stack,b∈X.env.locals::X.fs:=fun b hb=>by
 rcases I.ok.stk with e | ⟨e,hf⟩
 ·rw [e] at hb;exact List.mem_cons_of_mem _ hb
 ·rw [e] at hb
  unfold frs at hb
  rw [List.filterMap_cons,hf] at hb
  exact hb
theorem Inv.stkFree (I:Inv X pins σ H s):∀ b∈frs X.stack,H b=none:=fun b hb=>by
 rcases List.mem_cons.mp (I.stkSub b hb) with e | hb
 ·rw [e];exact I.free
 ·obtain ⟨_,o,ho,_⟩:=I.ok.funs.mem hb
  exact I.base.free b o ho (I.ok.frf b hb) fun z=>I.ok.exfs b z hb
theorem Inv.step {g':Array GenState}{t':Nat}{d':Drawn}{ch:List Addr}(I:Inv X pins σ H s)
  (hch:∀ b∈ch,(b∈X.ex∨X.s₀.heap.objs.size<=b)∧b≠X.env.locals∧(∀ x c,X.env.cells.lookup x=some c->c≠b)∧∀ p∈X.pn++pins,p.1≠b)
  (keep:∀ b o,b≠X.env.locals->b∉X.fs->b∉ch->s.heap.get? b=some o->H b=none->h'.get? b=some o)
  (slot:∀ b o,b≠X.env.locals->b∈X.fs->b∉ch->s.heap.get? b=some o->H b=none->∃ sl,h'.get? b=some { o with slots:=sl }) (free:∀ b o,b∉ch->s.heap.get? b=some o->H b=none->H' b=none)
  (there:∀ b o,b∉ch->s.heap.get? b=some o->∃ o',h'.get? b=some o')
  (tups:∀ b xs,H b=some (.tup xs)->H' b=some (.tup xs)) (frzs:∀ b o u,H b=some (.frz o u)->H' b=some (.frz o u)) (tbls:∀ b ps,H b=some (.tbl ps)->∃ more,H' b=some (.tbl (ps++more)))
  (ns:∀ m,s.heap.Ns X.env.locals m->h'.Ns X.env.locals m) (hok:HOk X.prog X.w H' h') (hg:AllBare g') :
  Inv X pins σ H' { s with heap:=h',gens:=g',drawn:=d',toks:=t' }:=by
 have neL:∀ b o,X.s₀.heap.get? b=some o->b≠X.env.locals:=fun b o e=>Nat.ne_of_lt (Nat.lt_of_lt_of_le (Heap.lt_size e) I.ok.above)
 have neC:∀ b o,X.s₀.heap.get? b=some o->b∉X.ex->b∉ch:=fun b o e hx hb=>by
  rcases (hch b hb).1 with z | z
  ·exact hx z
  ·exact absurd (Nat.lt_of_lt_of_le (Heap.lt_size e) z) (Nat.lt_irrefl _)
 have cellK:∀ x c,X.env.cells.lookup x=some c->∀ v,s.heap.IsCell c v->h'.IsCell c v:=fun x c e v ⟨o,ho,hd⟩=>by
  have nch:c∉ch:=fun z=>(hch c z).2.2.1 x c e rfl
  by_cases hc:c∈X.fs
  ·obtain ⟨sl,q⟩:=slot c o (I.cne x c e) hc nch ho (I.freeC x c e)
   exact ⟨_,q,hd⟩
  ·exact ⟨o,keep c o (I.cne x c e) hc nch ho (I.freeC x c e),hd⟩
 refine ⟨I.ok,I.os,hg,⟨fun b o e n hb hx=>?_,fun b o e n hb hx=>?_,fun b o e n hx=>?_,fun b o e hx=>?_,fun b xs e=>tups b xs (I.base.tups b xs e),fun b o xs e=>frzs b o xs (I.base.frzs b o xs e),fun b ps e=>?_⟩,?_,fun x c e=>?_,?_,fun x c e=>?_,fun p hp=>?_,hok,I.len⟩
 ·exact keep b o (neL b o e) hb (neC b o e hx) (I.base.keep b o e n hb hx) (I.base.free b o e n hx)
 ·obtain ⟨sl,e1⟩:=I.base.slot b o e n hb hx
  obtain ⟨sl',e2⟩:=slot b _ (neL b o e) hb (neC b o e hx) e1 (I.base.free b o e n hx)
  exact ⟨sl',e2⟩
 ·obtain ⟨o',e1⟩:=I.base.there b o e hx
  exact free b o' (neC b o e hx) e1 (I.base.free b o e n hx)
 ·obtain ⟨o',e1⟩:=I.base.there b o e hx
  exact there b o' (neC b o e hx) e1
 ·obtain ⟨m1,e1⟩:=I.base.tbls b ps e
  obtain ⟨m2,e2⟩:=tbls b _ e1
  exact ⟨m1++m2,by rw [e2,Array.append_assoc]⟩
 ·obtain ⟨m,hn,hl⟩:=I.loc
  refine ⟨m,ns m hn,fun i x v e1 e2 e3=>?_⟩
  obtain ⟨u,r,l⟩:=hl i x v e1 e2 e3
  refine ⟨u,r,?_⟩
  rcases l with l | ⟨k,c,e,z⟩
  ·exact .inl l
  ·exact .inr ⟨k,c,e,cellK x c e _ z⟩
 ·obtain ⟨v,z⟩:=I.cell x c e
  exact ⟨v,cellK x c e v z⟩
 ·obtain ⟨m,⟨o,_,_,ho,_⟩,_⟩:=I.loc
  exact free _ o (fun z=>(hch _ z).2.1 rfl) ho I.free
 ·obtain ⟨v,o,ho,hd⟩:=I.cell x c e
  exact free c o (fun z=>(hch c z).2.2.1 x c e rfl) ho (I.freeC x c e)
 ·obtain ⟨e,n,ne,nf,d⟩:=I.pin p hp
  have nch:p.1∉ch:=fun z=>(hch p.1 z).2.2.2 p hp rfl
  exact ⟨keep p.1 p.2 ne nf nch e n,free p.1 p.2 nch e n,ne,nf,d⟩
theorem Inv.un {t':Nat}(I:Inv X pins σ H s)(u:Un X.fs [] H H' s.heap h')(hok:HOk X.prog X.w H' h'):Inv X pins σ H' { s with heap:=h',toks:=t' }:=by
 obtain ⟨m,⟨o,es,ep,ho,r⟩,_⟩:=id I.loc
 obtain ⟨sl,hL⟩:=u.any ho I.free (by simp)
 exact I.step (g':=s.gens) (d':=s.drawn) (ch:=[]) (fun _ z=>nomatch z) (fun b o _ hb _ e n=>u.keep b o e n hb (by simp)) (fun b o _ hb _ e n=>u.slot b o e n hb (by simp)) (fun b o _ e n=>u.free b o e n (by simp)) (fun b o _ e=>u.there b o e (by simp)) u.tups u.frzs u.tbls (fun m' hm=>by
  obtain ⟨o',es',ep',ho',r'⟩:=hm
  rw [ho] at ho';cases ho'
  exact ⟨_,es',ep',hL,r'⟩) hok I.bare
theorem Inv.call {g':Array GenState}{t':Nat}{d':Drawn}{ch:List Addr}(I:Inv X pins σ H s)(u:Un (frs X.stack) ch H H' s.heap h')(hok:HOk X.prog X.w H' h')(hg:AllBare g')
  (hch:∀ b∈ch,(b∈X.ex∨X.s₀.heap.objs.size<=b)∧b≠X.env.locals∧(∀ x c,X.env.cells.lookup x=some c->c≠b)∧∀ p∈X.pn++pins,p.1≠b) :
  Inv X pins σ H' { s with heap:=h',gens:=g',drawn:=d',toks:=t' }:=by
 obtain ⟨m,⟨o,es,ep,ho,r⟩,_⟩:=id I.loc
 obtain ⟨sl,hL⟩:=u.any ho I.free fun z=>(hch _ z).2.1 rfl
 exact I.step (ch:=ch) hch (fun b o hL hb hc e n=>u.keep b o e n (fun z=>(List.mem_cons.mp (I.stkSub b z)).elim hL hb) hc) (fun b o _ _ hc e n=>u.any e n hc) (fun b o hc e n=>u.free b o e n hc) (fun b o hc e=>u.there b o e hc) u.tups u.frzs u.tbls (fun m' hm=>by
  obtain ⟨o',es',ep',ho',r'⟩:=hm
  rw [ho] at ho';cases ho'
  exact ⟨_,es',ep',hL,r'⟩) hok hg
theorem Inv.turned {t':Nat}{it:Addr}(I:Inv X pins σ H s)(k:∀ b o,b≠it->s.heap.get? b=some o->h'.get? b=some o)(hn:H it=none)(hL:it≠X.env.locals)
  (h1:it∈X.ex∨X.s₀.heap.objs.size<=it) (h2:∀ x c,X.env.cells.lookup x=some c->c≠it) (h3:∀ p∈X.pn++pins,p.1≠it):Inv X pins σ H { s with heap:=h',toks:=t' }:=by
 have nit:∀ b u,H b=some u->b≠it:=fun b u e z=>by rw [z,hn] at e;cases e
 refine I.step (g':=s.gens) (d':=s.drawn) (ch:=[it]) (fun b hb=>?_) (fun b o _ _ hc e _=>k b o (fun z=>hc (by simp [z])) e) (fun b o _ _ hc e _=>⟨o.slots,k b o (fun z=>hc (by simp [z])) e⟩) (fun _ _ _ _ n=>n)
  (fun b o hc e=>⟨o,k b o (fun z=>hc (by simp [z])) e⟩) (fun _ _ e=>e) (fun _ _ _ e=>e) (fun b ps e=>⟨#[],by rw [e];simp⟩) (fun m hm=>?_) (fun b u e=>?_) I.bare
 ·have e:b=it:=by simpa using hb
  subst e
  exact ⟨h1,hL,h2,h3⟩
 ·obtain ⟨o,es,ep,ho,r⟩:=hm
  exact ⟨o,es,ep,k _ o (Ne.symm hL) ho,r⟩
 ·refine (I.hok b u e).stay (fun c v hc q=>k c v ?_ q) (fun _ q=>q) fun _ _ q=>q
  rcases hc with z | z
  ·rw [z];exact nit b u e
  ·exact nit c _ z
theorem Inv.tok (I:Inv X pins σ H s)(t:Nat):Inv X pins σ H { s with toks:=t }:=I.un (h':=s.heap) (t':=t) Un.refl I.hok
theorem Inv.kept {t':Nat}(I:Inv X pins σ H s)(k:∀ b u,s.heap.get? b=some u->h'.get? b=some u):Inv X pins σ H { s with heap:=h',toks:=t' }:=I.un (Un.kept k) (I.hok.kept k)
theorem Inv.laid {a:Addr}{o:HO}{t':Nat}(I:Inv X pins σ H s)(k:∀ b u,s.heap.get? b=some u->h'.get? b=some u)(hp:s.heap.objs.size<=a)(new:cG X.prog X.w (upd H a o) h' a o) :
 Inv X pins σ (upd H a o) { s with heap:=h',toks:=t' }:=I.un (Un.laid k hp (I.hok.fresh hp)) (I.hok.laid k hp new)
theorem Inv.write {x e:Addr}{o:HO}{t':Nat}(I:Inv X pins σ H s)(mu:Mut (H x))(he:e=x∨H e=some (.own x))(k:∀ b u,b≠e->s.heap.get? b=some u->h'.get? b=some u)(heo:∃ u,h'.get? e=some u)
 (new:cG X.prog X.w (upd H x o) h' x o):Inv X pins σ (upd H x o) { s with heap:=h',toks:=t' }:=I.un (Un.write mu he k heo) (I.hok.write mu he k heo new)
theorem Inv.pins_of {pins':List (Addr×Obj)}(I:Inv X pins σ H s)(h:∀ p∈pins',s.heap.get? p.1=some p.2∧H p.1=none∧p.1≠X.env.locals∧p.1∉X.fs∧∀ v,p.2.data≠.cell v):Inv X pins' σ H s :=
 ⟨I.ok,I.os,I.bare,I.base,I.loc,I.cell,I.free,I.freeC,fun p hp=>(List.mem_append.mp hp).elim (fun z=>I.pin p (List.mem_append_left _ z)) (h p),I.hok,I.len⟩
theorem vY {N:List Str}(hN:N.Nodup){i j:Nat}{x:Str}(a:N[i]?=some x)(b:N[j]?=some x):i=j:=by
 obtain ⟨h1,e1⟩:=List.getElem?_eq_some_iff.mp a
 obtain ⟨h2,e2⟩:=List.getElem?_eq_some_iff.mp b
 exact (List.getElem_inj hN).mp (e1.trans e2.symm)
theorem rD {M:Model}{A:Around}{E:Value->Shared->Prop}{i:Nat}{x:Str}{v:V}{u:Value}{Q:Unit->Shared->Prop}(I:Inv X pins σ H s)(hN:X.N.Nodup)(hi:X.N[i]?=some x)(hx:Loc X.env.scope x)(r:bJ v u)
  (h:∀ s',Inv X pins (σ.set i (some v)) H s'->(∃ a,Heap.SameBut a s.heap s'.heap∧(a=X.env.locals∨X.env.cells.lookup x=some a))->Q () s') (hf:X.fn x=true∨X.env.scope.names.lookup x=some .local:=by first | exact .inl rfl | exact .inr rfl | assumption):wpAny M A (storeName X.env x u) Q E s:=by
 obtain ⟨m,hn,hl⟩:=id I.loc
 have hcls:(X.env.scope.kind == .class||(X.env.scope.kind == .module&&X.env.locals != X.env.globals))=false:=by rw [I.ok.kind];rfl
 have hiσ:i<σ.length:=by rw [I.len];exact (List.getElem?_eq_some_iff.mp hi).1
 have cne:=I.cne
 have tracked:∀ {a:Addr} {h':Heap},(∃ o,s.heap.get? a=some o∧H a=none)->Heap.SameBut a s.heap h'->HOk X.prog X.w H h':=fun {a h'} ha hs b ob e=>by
  obtain ⟨_,_,hfree⟩:=ha
  refine (I.hok b ob e).stay (fun c w' hc q=>(hs.2 c ?_).trans q) (fun _ q=>q) fun _ _ q=>q
  rintro rfl
  rcases hc with rfl | hc
  ·rw [hfree] at e;cases e
  ·rw [hfree] at hc;cases hc
 rcases hx with hk | hk
 ·refine wpAny_storeName_local hk hn (fun h' hn' hs=>?_) hcls
  obtain ⟨oL,_,_,hoL,_⟩:=id hn
  refine h _ ⟨I.ok,I.os,I.bare,⟨fun b o e n hb hx=>?_,fun b o e n hb hx=>?_,I.base.free,fun b o e hx=>?_,I.base.tups,I.base.frzs,I.base.tbls⟩,⟨_,hn',fun j y v' e1 e2 e3=>?_⟩,fun y c e=>?_,I.free,I.freeC,fun p hp=>?_,tracked ⟨oL,hoL,I.free⟩ hs,by simpa using I.len⟩ ⟨_,hs,.inl rfl⟩
  ·exact (hs.2 b (Nat.ne_of_lt (Nat.lt_of_lt_of_le (Heap.lt_size e) I.ok.above))).trans (I.base.keep b o e n hb hx)
  ·obtain ⟨sl,e1⟩:=I.base.slot b o e n hb hx
   exact ⟨sl,(hs.2 b (Nat.ne_of_lt (Nat.lt_of_lt_of_le (Heap.lt_size e) I.ok.above))).trans e1⟩
  ·obtain ⟨o',e1⟩:=I.base.there b o e hx
   exact ⟨o',(hs.2 b (Nat.ne_of_lt (Nat.lt_of_lt_of_le (Heap.lt_size e) I.ok.above))).trans e1⟩
  ·by_cases hj:j=i
   ·subst hj
    rw [hi] at e1;cases e1
    rw [List.getElem?_set_self hiσ] at e2
    cases e2
    exact ⟨u,r,.inl ⟨hk,by simp⟩⟩
   ·rw [List.getElem?_set_ne (Ne.symm hj)] at e2
    obtain ⟨u',r',q⟩:=hl j y v' e1 e2 e3
    refine ⟨u',r',?_⟩
    rcases q with ⟨k,e⟩ | ⟨k,c,e,z⟩
    ·refine .inl ⟨k,?_⟩
     have:y≠x:=fun e=>hj (vY hN e1 (e▸hi))
     simp [this,e]
    ·exact .inr ⟨k,c,e,z.sameBut hs (cne y c e)⟩
  ·obtain ⟨w',z⟩:=I.cell y c e
   exact ⟨w',z.sameBut hs (cne y c e)⟩
  ·obtain ⟨e,n,ne,nf,d⟩:=I.pin p hp
   exact ⟨(hs.2 p.1 ne).trans e,n,ne,nf,d⟩
 ·have hfn:X.fn x=true:=by
   rcases hf with z | z
   ·exact z
   ·rw [z] at hk;cases hk
  obtain ⟨c,hc⟩:=I.ok.has x (.inl hk)
  obtain ⟨w',z⟩:=I.cell x c hc
  refine wpAny_storeName_cell I.ok.kind hk hc z (fun h' hc' hs=>?_)
  obtain ⟨oc,hoc,hocd⟩:=id z
  refine h { s with heap:=h' } ⟨I.ok,I.os,I.bare,⟨fun b o e n hb hx=>?_,fun b o e n hb hx=>?_,I.base.free,fun b o e hx=>?_,I.base.tups,I.base.frzs,I.base.tbls⟩,⟨m,hn.sameBut hs (Ne.symm (cne x c hc)),fun j y v' e1 e2 e3=>?_⟩,fun y c' e=>?_,I.free,I.freeC,fun p hp=>?_,tracked ⟨oc,hoc,I.freeC x c hc⟩ hs,by simpa using I.len⟩ ⟨c,hs,.inr hc⟩
  ·exact (hs.2 b (Nat.ne_of_lt (Nat.lt_of_lt_of_le (Heap.lt_size e) (I.ok.cab x c hfn hc)))).trans (I.base.keep b o e n hb hx)
  ·obtain ⟨sl,e1⟩:=I.base.slot b o e n hb hx
   exact ⟨sl,(hs.2 b (Nat.ne_of_lt (Nat.lt_of_lt_of_le (Heap.lt_size e) (I.ok.cab x c hfn hc)))).trans e1⟩
  ·obtain ⟨o',e1⟩:=I.base.there b o e hx
   exact ⟨o',(hs.2 b (Nat.ne_of_lt (Nat.lt_of_lt_of_le (Heap.lt_size e) (I.ok.cab x c hfn hc)))).trans e1⟩
  ·by_cases hj:j=i
   ·subst hj
    rw [hi] at e1;cases e1
    rw [List.getElem?_set_self hiσ] at e2
    cases e2
    exact ⟨u,r,.inr ⟨.inl hk,c,hc,hc'⟩⟩
   ·rw [List.getElem?_set_ne (Ne.symm hj)] at e2
    obtain ⟨u',r',q⟩:=hl j y v' e1 e2 e3
    refine ⟨u',r',?_⟩
    rcases q with q | ⟨k,c',e,z'⟩
    ·exact .inl q
    ·refine .inr ⟨k,c',e,z'.sameBut hs ?_⟩
     rintro rfl
     exact hj (vY hN e1 (I.ok.inj _ _ _ e hc▸hi))
  ·by_cases hcc:c'=c
   ·subst hcc;exact ⟨_,hc'⟩
   ·obtain ⟨w2,z2⟩:=I.cell y c' e
    exact ⟨w2,z2.sameBut hs hcc⟩
  ·obtain ⟨e,n,ne,nf,d⟩:=I.pin p hp
   refine ⟨(hs.2 p.1 ?_).trans e,n,ne,nf,d⟩
   intro q
   rw [q,hoc] at e
   have q':oc=p.2:=Option.some.inj e
   exact d w' (by rw [<- q'];exact hocd)
theorem lL {M:Model}{A:Around}{E:Value->Shared->Prop}{i:Nat}{x:Str}{v:V}{u:Value}{Q:Unit->Shared->Prop}(I:Inv X pins σ H s)(hN:X.N.Nodup)(hi:X.N[i]?=some x)(hx:Loc X.env.scope x)(r:bJ v u)
  (h:∀ s',Inv X pins (σ.set i (some v)) H s'->Q () s') (hf:X.fn x=true∨X.env.scope.names.lookup x=some .local:=by first | exact .inl rfl | exact .inr rfl | assumption):wpAny M A (storeName X.env x u) Q E s :=
 rD I hN hi hx r (fun s' I' _=>h s' I') hf
theorem Inv.call' {s':Shared}{ch:List Addr}(I:Inv X pins σ H s)(ho:s'.os=s.os)(u:Un (frs X.stack) ch H H' s.heap s'.heap)(hok:HOk X.prog X.w H' s'.heap)(hg:AllBare s'.gens)
  (hch:∀ b∈ch,(b∈X.ex∨X.s₀.heap.objs.size<=b)∧b≠X.env.locals∧(∀ x c,X.env.cells.lookup x=some c->c≠b)∧∀ p∈X.pn++pins,p.1≠b):Inv X pins σ H' s':=by
 obtain ⟨h',g',d',t',o'⟩:=s'
 have e:o'=s.os:=ho
 subst e
 exact I.call (g':=g') (t':=t') (d':=d') u hok hg hch
end
abbrev XK:=Value->Option Addr->Hp->Prop
abbrev St:=List (Option V)
abbrev VK:=V->Hp->Prop
abbrev TE:=St->Hp->VK->Prop
abbrev TT:=St->Hp->(Bool->Hp->Prop)->Prop
abbrev TA:=St->Hp->(List V->Hp->Prop)->Prop
set_option genInjectivity false in
structure kL where
 nx:St->Hp->Prop
 rt:VK
 bk:St->Hp->Prop:=fun _ _=>False
 ct:St->Hp->Prop:=fun _ _=>False
abbrev TS:=kL->St->Hp->Prop
def EP (X:Cx)(pins:List (Addr×Obj))(σ:St)(Q:VK)(u:Value)(s':Shared):Prop:=∃ v H',Inv X pins σ H' s'∧bJ v u∧Q v H'
def TP (X:Cx)(pins:List (Addr×Obj))(σ:St)(Q:Bool->Hp->Prop)(b:Bool)(s':Shared):Prop:=∃ H',Inv X pins σ H' s'∧Q b H'
def AP (X:Cx)(pins:List (Addr×Obj))(σ:St)(Q:List V->Hp->Prop)(us:List Value)(s':Shared):Prop:=∃ vs H',Inv X pins σ H' s'∧bX vs us∧Q vs H'
def SP (X:Cx)(pins:List (Addr×Obj))(D:kL)(f:Flow)(s':Shared):Prop :=
 match f with
 | .next=>∃ σ' H',Inv X pins σ' H' s'∧D.nx σ' H'
 | .brk=>∃ σ' H',Inv X pins σ' H' s'∧D.bk σ' H'
 | .cont=>∃ σ' H',Inv X pins σ' H' s'∧D.ct σ' H'
 | .ret u=>∃ v σ' H',Inv X pins σ' H' s'∧bJ v u∧D.rt v H'
def PE (X:Cx)(e:Expr)(t:TE):Prop :=
 ∀ (pins:List (Addr×Obj)) (s:Shared) (σ:St) (H:Hp) (Q:VK),Inv X pins σ H s->t σ H Q->wpAny (model X.prog X.w) X.A (eval e X.env) (EP X pins σ Q) X.xe s
def PT (X:Cx)(e:Expr)(t:TT):Prop :=
 ∀ (pins:List (Addr×Obj)) (s:Shared) (σ:St) (H:Hp) (Q:Bool->Hp->Prop),Inv X pins σ H s->t σ H Q->wpAny (model X.prog X.w) X.A (isTrue e X.env (eval e X.env)) (TP X pins σ Q) X.xe s
def PW (X:Cx)(e:Expr)(t:TT):Prop :=
 ∀ (whole:Sem Value) (pins:List (Addr×Obj)) (s:Shared) (σ:St) (H:Hp) (Q:Bool->Hp->Prop),Inv X pins σ H s->t σ H Q->wpAny (model X.prog X.w) X.A (isTrue e X.env whole) (TP X pins σ Q) X.xe s
theorem PW.pt {X:Cx}{e:Expr}{t:TT}(h:PW X e t):PT X e t:=h _
def PA (X:Cx)(es:List Expr)(t:TA):Prop :=
 ∀ (pos:Pos) (pins:List (Addr×Obj)) (s:Shared) (σ:St) (H:Hp) (Q:List V->Hp->Prop),Inv X pins σ H s->t σ H Q->wpAny (model X.prog X.w) X.A (spliced (backTo pos (starEach es X.env))) (AP X pins σ Q) X.xe s
def PS (X:Cx)(st:Stmt)(t:TS):Prop :=
 ∀ (pins:List (Addr×Obj)) (s:Shared) (σ:St) (H:Hp) (D:kL),Inv X pins σ H s->t D σ H->wpAny (model X.prog X.w) X.A (exec st X.env) (SP X pins D) X.xe s
def PSs (X:Cx)(st:List Stmt)(t:TS):Prop :=
 ∀ (pins:List (Addr×Obj)) (s:Shared) (σ:St) (H:Hp) (D:kL),Inv X pins σ H s->t D σ H->wpAny (model X.prog X.w) X.A (execs st X.env) (SP X pins D) X.xe s
theorem thn {α:Type}{t:Sem α}{Q Q':α->Shared->Prop}{M:Model}{A:Around}{E:Value->Shared->Prop}{s:Shared}(h:wpAny M A t Q E s)(hQ:∀ a s,Q a s->Q' a s):wpAny M A t Q' E s:=wpAny_mono h hQ fun _ _ x=>x
end L2
namespace L2
open PySem PySem.Spec PyProof.Rows
section
variable {X:Cx}
def Ot (i:Nat):TE:=fun σ H Q=>∃ v,σ[i]?=some (some v)∧Q v H
def tC (v:V):TE:=fun _ H Q=>Q v H
theorem Lf {i:Nat}{x:Str}{pos:Pos}(hN:X.N[i]?=some x)(hv:Vis X.env.scope x)(hd:(x==("__debug__" : Str))=false:=by decide)(hcd:(x==("__classdict__" : Str))=false:=by decide):PE X (.Name x pos) (Ot i):=by
 intro pins s σ H Q I h
 obtain ⟨v,e,h⟩:=h
 obtain ⟨m,hn,hl⟩:=I.loc
 obtain ⟨u,r,l⟩:=hl i x v hN e hv
 have fin:EP X pins σ Q u s:=⟨v,H,I,r,h⟩
 rcases l with ⟨hk,hm⟩ | ⟨hk,c,hc,hcell⟩
 ·exact wpAny_Name (wpAny_loadName_local I.ok.kind hk hn hm fin) hd
 ·rcases hk with hk | hk
  ·exact wpAny_Name (wpAny_loadName_cell I.ok.kind hk hc hcell fin) hd
  ·exact wpAny_Name (wpAny_loadName_free I.ok.kind hk hc hcell fin hcd) hd
theorem aG {i j pos}:PE X (.Constant (.int i) j pos) (tC (.int i)):=fun _ _ _ H _ I h=>wpAny_Constant_int ⟨.int i,H,I.tok _,⟨_,rfl⟩,h⟩
theorem zW {b j pos}:PE X (.Constant (.bool b) j pos) (tC (.bl b)):=fun _ _ _ H _ I h=>Constant_bool ⟨.bl b,H,I,rfl,h⟩
theorem Mf {j pos}:PE X (.Constant .none j pos) (tC .non):=fun _ _ _ H _ I h=>Constant_none ⟨.non,H,I,rfl,h⟩
theorem Kt {x j pos}:PE X (.Constant (.str x) j pos) (tC (.str x)):=fun _ _ _ H _ I h=>Calls.Constant_str ⟨.str x,H,I.tok _,⟨_,rfl⟩,h⟩
def Gl (X:Cx)(x:Str):Prop:=X.env.kindOf x=some .globalImplicit
theorem nZ {E:Value->Shared->Prop}{pins:List (Addr×Obj)}{s:Shared}{σ:St}{H:Hp}{x:Str}{u:Value}{pos:Pos}{Q:Value->Shared->Prop}(I:Inv X pins σ H s)(hg:Gl X x)(hm:X.mg x=some u)(h:Q u s)
  (hd:(x==("__debug__" : Str))=false:=by decide):wpAny (model X.prog X.w) X.A (eval (.Name x pos) X.env) Q E s :=
 Calls.Name_function_global I.ok.kind hg (Calls.loadGlobal_global (by rw [I.ok.glob];exact I.mod.glob.keeps I.bk) hm h) hd
theorem mC {E:Value->Shared->Prop}{pins:List (Addr×Obj)}{s:Shared}{σ:St}{H:Hp}{x:Str}{u:Value}{pos:Pos}{Q:Value->Shared->Prop}(I:Inv X pins σ H s)(hg:Gl X x)(hm:X.mg x=none)(hv:bootBuiltins x=some u)(h:Q u s)
  (hn:x ≠ "__name__" := by decide) (hd:(x==("__debug__" : Str))=false:=by decide):wpAny (model X.prog X.w) X.A (eval (.Name x pos) X.env) Q E s:=by
 obtain ⟨mb,h1,h2⟩:=I.mod.blt
 exact Calls.Name_function_global I.ok.kind hg (Calls.loadGlobal_builtin (by rw [I.ok.glob];exact I.mod.glob.keeps I.bk) hm (by rw [I.ok.blt];exact h1.keeps I.bk) ((h2 x hn).trans hv) h) hd
theorem eW {x:Str}{v:V}{u:Value}{pos:Pos}(hg:Gl X x)(hm:X.mg x=some u)(r:bJ v u)(hd:(x==("__debug__" : Str))=false:=by decide):PE X (.Name x pos) (tC v) :=
 fun _ _ _ H _ I h=>nZ I hg hm ⟨v,H,I,r,h⟩ hd
theorem yR {x:Str}{v:V}{u:Value}{pos:Pos}(hg:Gl X x)(hm:X.mg x=none)(hv:bootBuiltins x=some u)(r:bJ v u)(hn:x ≠ "__name__" := by decide)(hd:(x==("__debug__" : Str))=false:=by decide):PE X (.Name x pos) (tC v) :=
 fun _ _ _ H _ I h=>mC I hg hm hv ⟨v,H,I,r,h⟩ hn hd
variable {a b:Expr}{ta tb:TE}{pos:Pos}
def PC (X:Cx)(op:CmpOp)(a b:Expr)(t:TE):Prop :=
 ∀ (pins:List (Addr×Obj)) (s:Shared) (σ:St) (H:Hp) (Q:VK),Inv X pins σ H s->t σ H Q ->
  wpAny (model X.prog X.w) X.A (eval a X.env) (fun v s₁=>wpAny (model X.prog X.w) X.A (eval b X.env) (fun u s₂=>wpAny (model X.prog X.w) X.A (compareOp op v u) (EP X pins σ Q) X.xe s₂) X.xe s₁) X.xe s
theorem Fh (b:Expr){op:CmpOp}(h:op≠.In)(h2:op≠.NotIn):behindInMarks op b=false:=by
 have e1:(op==CmpOp.In)=false:=by cases op <;> first | rfl | exact absurd rfl h
 have e2:(op==CmpOp.NotIn)=false:=by cases op <;> first | rfl | exact absurd rfl h2
 cases b <;> simp [behindInMarks,e1,e2]
def Qq (ta:TE):TE:=fun σ H Q=>ta σ H fun x H1=>Q (.bl (decide (x = .non))) H1
theorem bJ.none_iff {x:V}{v:Value}(r:bJ x v):(v==Value.none)=decide (x = .non):=by
 cases x with
 | non=>cases r;rfl
 | bl _=>cases r;rfl
 | int _=>obtain ⟨t,rfl⟩:=r;rfl
 | str _=>obtain ⟨t,rfl⟩:=r;rfl
 | byt _=>obtain ⟨t,rfl⟩:=r;rfl
 | flt _=>obtain ⟨t,rfl⟩:=r;rfl
 | ref _=>cases r;rfl
 | ty _=>cases r;rfl
theorem Me {j pos'}(ha:PE X a ta):PC X .Is a (.Constant .none j pos') (Qq ta):=by
 intro pins s σ H Q I h
 refine thn (ha pins s σ H _ I h) fun v s1 ⟨x,H1,I1,r1,q1⟩=>?_
 exact Constant_none (is_none_gen ⟨.bl _,H1,I1,by rw [r1.none_iff];rfl,q1⟩)
def tB (t:TE):TT:=fun σ H Q=>t σ H fun x H1=>∃ c,x = .bl c∧Q c H1
theorem wX {op:CmpOp}{t:TE}(h:PC X op a b t)(h1:behindInMarks op b=false:=by first | exact Fh _ (by decide) (by decide) | rfl):PT X (.Compare a [op] [b] pos) (tB t):=by
 intro pins s σ H Q I hw
 refine wpAny_isTrue_Compare1 (thn (h pins s σ H _ I hw) fun v s1 h1=>thn h1 fun u s2 h2=>thn h2 fun c s3 ⟨x,H1,I1,r1,q1⟩=>?_) h1
 obtain ⟨d,rfl,q⟩:=q1
 cases r1
 exact wpAny_truthy_bool ⟨H1,I1,q⟩
theorem tM {e:Expr}{t:TE}(h:PE X e t)(he:∀ whole,isTrue e X.env whole=(do let v <- whole;standAt e.pos;holding [v] (truthy v)):=by intro _;rfl):PT X e (tB t):=by
 intro pins s σ H Q I hw
 refine isTrue_plain (thn (h pins s σ H _ I hw) fun v s1 ⟨x,H1,I1,r1,q1⟩=>?_) (he _)
 obtain ⟨d,rfl,q⟩:=q1
 cases r1
 exact wpAny_truthy_bool ⟨H1,I1,q⟩
variable {tA tB':TT}{rest:List Expr}
def Px (t u:TT):TT:=fun σ H Q=>t σ H fun c H1=>if c=true then u σ H1 Q else Q false H1
def tOr (t u:TT):TT:=fun σ H Q=>t σ H fun c H1=>if c=true then Q true H1 else u σ H1 Q
def Pq (t:TT):TT:=fun σ H Q=>t σ H fun c H1=>Q (!c) H1
theorem kP (ha:PT X a tA):PW X (.BoolOp .And [a] pos) tA:=by
 intro wh pins s σ H Q I h
 refine isTrue_and (thn (ha pins s σ H Q I h) fun c s1 e=>?_)
 cases c with
 | true=>exact isTrue_and_nil e
 | false=>exact e
theorem tH (ha:PT X a tA):PW X (.BoolOp .Or [a] pos) tA:=by
 intro wh pins s σ H Q I h
 refine isTrue_or (thn (ha pins s σ H Q I h) fun c s1 e=>?_)
 cases c with
 | false=>exact isTrue_or_nil e
 | true=>exact e
theorem oC (ha:PT X a tA)(hb:PW X (.BoolOp .And (b::rest) pos) tB'):PW X (.BoolOp .And (a::b::rest) pos) (Px tA tB'):=by
 intro wh pins s σ H Q I h
 refine isTrue_and (thn (ha pins s σ H _ I h) fun c s1 ⟨H1,I1,q1⟩=>?_)
 cases c with
 | true=>exact hb wh pins s1 σ H1 Q I1 q1
 | false=>exact ⟨H1,I1,q1⟩
theorem Ad (ha:PT X a tA)(hb:PW X (.BoolOp .Or (b::rest) pos) tB'):PW X (.BoolOp .Or (a::b::rest) pos) (tOr tA tB'):=by
 intro wh pins s σ H Q I h
 refine isTrue_or (thn (ha pins s σ H _ I h) fun c s1 ⟨H1,I1,q1⟩=>?_)
 cases c with
 | true=>exact ⟨H1,I1,q1⟩
 | false=>exact hb wh pins s1 σ H1 Q I1 q1
theorem xK (ha:PT X a tA):PT X (.UnaryOp .Not a pos) (Pq tA):=by
 intro pins s σ H Q I h
 exact isTrue_not (ha pins s σ H (fun c H1=>Q (!c) H1) I h)
def Nm (ta tb:TE):TE:=fun σ H Q=>ta σ H fun x H1=>∃ c,x = .bl c∧if c=true then tb σ H1 Q else Q (.bl false) H1
def Pk (ta:TE):TE:=fun σ H Q=>ta σ H fun x H1=>∃ c,x = .bl c∧Q (.bl (!c)) H1
theorem Kz {op}{t:TE}(h:PE X a t):PE X (.BoolOp op [a] pos) t:=fun pins s σ H Q I hw=>BoolOp_one (h pins s σ H Q I hw)
theorem Di (ha:PE X a ta)(hb:PE X (.BoolOp .And (b::rest) pos) tb):PE X (.BoolOp .And (a::b::rest) pos) (Nm ta tb):=by
 intro pins s σ H Q I h
 refine BoolOp_and (thn (ha pins s σ H _ I h) fun v s1 ⟨x,H1,I1,r1,q1⟩=>?_)
 obtain ⟨c,rfl,q1⟩:=q1
 cases r1
 refine wpAny_truthy_bool ?_
 cases c with
 | true=>exact hb pins s1 σ H1 Q I1 q1
 | false=>exact ⟨.bl false,H1,I1,rfl,q1⟩
theorem Mp (ha:PE X a ta):PE X (.UnaryOp .Not a pos) (Pk ta):=by
 intro pins s σ H Q I h
 refine UnaryOp_ (thn (ha pins s σ H _ I h) fun v s1 ⟨x,H1,I1,r1,q1⟩=>?_)
 obtain ⟨c,rfl,q1⟩:=q1
 cases r1
 exact not_of (wpAny_truthy_bool ⟨.bl (!c),H1,I1,rfl,q1⟩)
def tIf (t:TT)(ta tb:TE):TE:=fun σ H Q=>t σ H fun c H1=>if c=true then ta σ H1 Q else tb σ H1 Q
theorem Fj {c:Expr}(hc:PT X c tA)(ha:PE X a ta)(hb:PE X b tb):PE X (.IfExp c a b pos) (tIf tA ta tb):=by
 intro pins s σ H Q I h
 refine wpAny_IfExp (thn (hc pins s σ H _ I h) fun d s1 ⟨H1,I1,q1⟩=>?_)
 cases d with
 | true=>exact ha pins s1 σ H1 Q I1 q1
 | false=>exact hb pins s1 σ H1 Q I1 q1
end
end L2
namespace L2
open PySem PySem.Spec PyProof.Rows
def SqL (K:PySem.W.Frag)(H:Hp)(a:Addr)(xs:List V):Prop :=
 Rd H a (.lst xs) ∨
  ∃ (o:Obj) (its:Array Value) (n:Nat),K.lookup a=some o∧o.cls = .type "list" ∧ o.dict=none∧o.data = .seq its n∧its.size<=sizeLine∧bX xs its.toList
def SqT (K:PySem.W.Frag)(H:Hp)(a:Addr)(xs:List V):Prop :=
 Rd H a (.tup xs) ∨
  ∃ (o:Obj) (its:Array Value) (n:Nat),K.lookup a=some o∧o.cls = .type "tuple" ∧ o.data = .seq its n∧its.size<=sizeLine∧bX xs its.toList
def Pt:Value->Option V
 | .none=>some .non
 | .bool b=>some (.bl b)
 | .int i _=>some (.int i)
 | .str x _=>some (.str x)
 | .bytes b _=>some (.byt b)
 | .float b _=>some (.flt b)
 | .ref a=>some (.ref a)
 | .type n=>some (.ty n)
 | _=>none
theorem bJ.abs {x:V}{u:Value}(r:bJ x u):Pt u=some x:=by
 cases x with
 | non=>cases r;rfl
 | bl _=>cases r;rfl
 | int _=>obtain ⟨t,rfl⟩:=r;rfl
 | str _=>obtain ⟨t,rfl⟩:=r;rfl
 | byt _=>obtain ⟨t,rfl⟩:=r;rfl
 | flt _=>obtain ⟨t,rfl⟩:=r;rfl
 | ref _=>cases r;rfl
 | ty _=>cases r;rfl
theorem bJ.inj {x y:V}{u:Value}(r:bJ x u)(q:bJ y u):x=y:=Option.some.inj (r.abs.symm.trans q.abs)
theorem bX.inj:∀ {xs ys:List V} {us:List Value},bX xs us->bX ys us->xs=ys
 | _,_,_,.nil,.nil=>rfl
 | _,_,_,.cons r t,.cons r' t'=>by rw [r.inj r',bX.inj t t']
section
variable {X:Cx}{pins:List (Addr×Obj)}{σ:St}{H:Hp}{s:Shared}{a:Addr}{xs ys:List V}
theorem SqL.of {K:PySem.W.Frag}(h:H a=some (.lst xs)):SqL K H a xs:=.inl (.inl h)
theorem SqT.of {K:PySem.W.Frag}(h:H a=some (.tup xs)):SqT K H a xs:=.inl (.inl h)
theorem Inv.list (I:Inv X pins σ H s)(h:SqL X.K H a xs):∃ its:List Value,bX xs its∧PlainL s.heap a its.toArray∧xs.length<=sizeLine:=by
 rcases h with h | ⟨o,its,n,hk,hc,hd,hs,hz,r⟩
 ·obtain ⟨z,its,n,r,e⟩:=h.ok I.hok
  exact ⟨its,r,⟨_,n,e,rfl,rfl,rfl⟩,z⟩
 ·refine ⟨its.toList,r,⟨o,n,I.kIn a o hk,hc,hd,by simpa using hs⟩,?_⟩
  have e:=r.length
  simp only [Array.length_toList] at e
  omega
theorem Inv.tuple (I:Inv X pins σ H s)(h:SqT X.K H a xs):∃ its:List Value,bX xs its∧IsTup s.heap a its.toArray∧xs.length<=sizeLine:=by
 rcases h with h | ⟨o,its,n,hk,hc,hs,hz,r⟩
 ·obtain ⟨z,its,r,p⟩:=h.ok I.hok
  exact ⟨its,r,p,z⟩
 ·refine ⟨its.toList,r,⟨o,I.kIn a o hk,hc,n,by simpa using hs⟩,?_⟩
  have e:=r.length
  simp only [Array.length_toList] at e
  omega
theorem Inv.list_inj (I:Inv X pins σ H s)(h:SqL X.K H a xs)(h':SqL X.K H a ys):xs=ys:=by
 obtain ⟨its,r,⟨o,n,e,_,_,d⟩,_⟩:=I.list h
 obtain ⟨its',r',⟨o',n',e',_,_,d'⟩,_⟩:=I.list h'
 rw [e] at e';cases e'
 rw [d] at d'
 injection d' with d1 _
 have:its=its':=by simpa using congrArg Array.toList d1
 subst this
 exact r.inj r'
theorem Inv.tuple_inj (I:Inv X pins σ H s)(h:SqT X.K H a xs)(h':SqT X.K H a ys):xs=ys:=by
 obtain ⟨its,r,⟨o,e,_,n,d⟩,_⟩:=I.tuple h
 obtain ⟨its',r',⟨o',e',_,n',d'⟩,_⟩:=I.tuple h'
 rw [e] at e';cases e'
 rw [d] at d'
 injection d' with d1 _
 have:its=its':=by simpa using congrArg Array.toList d1
 subst this
 exact r.inj r'
end
abbrev Cx.wish (X:Cx)(E:Value->Shared->Prop):Cx:={ X with xe:=E }
abbrev Cx.nox (X:Cx):Cx:=X.wish fun _ _=>False
theorem Cx.Ok.wish {X:Cx}(ok:X.Ok)(E:Value->Shared->Prop):(X.wish E).Ok :=
 ⟨ok.mod,ok.kind,ok.glob,ok.blt,ok.above,ok.inj,ok.has,ok.cab,ok.hd,ok.frames,ok.stk,ok.exf,ok.bs,ok.bsz,ok.noex,ok.exfs,ok.funs,ok.frf⟩
theorem Cx.Ok.unwish {X:Cx}{E:Value->Shared->Prop}(ok:(X.wish E).Ok):X.Ok :=
 ⟨ok.mod,ok.kind,ok.glob,ok.blt,ok.above,ok.inj,ok.has,ok.cab,ok.hd,ok.frames,ok.stk,ok.exf,ok.bs,ok.bsz,ok.noex,ok.exfs,ok.funs,ok.frf⟩
section
variable {X:Cx}{pins:List (Addr×Obj)}{σ:St}{H:Hp}{s:Shared}{E:Value->Shared->Prop}
theorem Inv.wish (I:Inv X pins σ H s)(E:Value->Shared->Prop):Inv (X.wish E) pins σ H s:=⟨I.ok.wish E,I.os,I.bare,I.base,I.loc,I.cell,I.free,I.freeC,I.pin,I.hok,I.len⟩
theorem Inv.unwish (I:Inv (X.wish E) pins σ H s):Inv X pins σ H s:=⟨I.ok.unwish,I.os,I.bare,I.base,I.loc,I.cell,I.free,I.freeC,I.pin,I.hok,I.len⟩
theorem SP.unwish {D:kL}{f:Flow}{s':Shared}(h:SP (X.wish E) pins D f s'):SP X pins D f s':=by
 cases f with
 | next=>obtain ⟨σ',H',I,q⟩:=h;exact ⟨σ',H',I.unwish,q⟩
 | brk=>obtain ⟨σ',H',I,q⟩:=h;exact ⟨σ',H',I.unwish,q⟩
 | cont=>obtain ⟨σ',H',I,q⟩:=h;exact ⟨σ',H',I.unwish,q⟩
 | ret u=>obtain ⟨v,σ',H',I,r,q⟩:=h;exact ⟨v,σ',H',I.unwish,r,q⟩
theorem PSs.nox {st:List Stmt}{t:TS}(h:PSs X.nox st t):PSs X st t:=fun pins s σ H D I hw =>
 wpAny_mono (h pins s σ H D (I.wish _) hw) (fun _ _ q=>q.unwish) fun _ _ z=>False.elim z
end
section
variable {X:Cx}{st:Stmt}{rest:List Stmt}{t u:TS}{e:Expr}{te:TE}{pos:Pos}
def Na:TS:=fun D σ H=>D.nx σ H
def Qr (t u:TS):TS:=fun D σ H=>t { D with nx:=u D } σ H
theorem bD:PSs X [] Na:=fun _ _ σ H _ I h=>wpAny_execs_nil ⟨σ,H,I,h⟩
theorem aB (h1:PS X st t)(h2:PSs X rest u):PSs X (st::rest) (Qr t u):=by
 intro pins s σ H D I h
 refine wpAny_execs_cons (thn (h1 pins s σ H { D with nx:=u D } I h) fun f s1 q=>?_)
 cases f with
 | next =>
  obtain ⟨σ',H',I',q⟩:=q
  exact h2 pins s1 σ' H' D I' q
 | ret v=>exact q
 | brk=>exact q
 | cont=>exact q
theorem aF (h1:PS X st t):PSs X [st] t:=by
 intro pins s σ H D I h
 refine wpAny_execs_cons (thn (h1 pins s σ H D I h) fun f s1 q=>?_)
 cases f with
 | next=>exact wpAny_execs_nil q
 | ret v=>exact q
 | brk=>exact q
 | cont=>exact q
def Mo:TS:=fun D σ H=>D.bk σ H
theorem Fp:PS X (.Break pos) Mo:=fun _ _ σ H _ I h=>wpAny_Break ⟨σ,H,I,h⟩
theorem Inv.quiet {pins:List (Addr×Obj)}{σ:St}{H:Hp}{s:Shared}(I:Inv X pins σ H s):interactive X.env=false:=by simp [interactive,I.ok.kind]
def Np (te:TE):TS:=fun D σ H=>te σ H fun _ H1=>D.nx σ H1
theorem fO (he:PE X e te)(hs:swapsWith e none pos.line X.env=pure false:=by rfl):PS X (.Expr e pos) (Np te):=by
 intro pins s σ H D I h
 exact wpAny_Expr_any (thn (he pins s σ H _ I h) fun v s1 ⟨x,H1,I1,r1,q1⟩=>⟨σ,H1,I1,q1⟩) I.quiet hs
def Qi (te:TE):TS:=fun D σ H=>te σ H D.rt
theorem bL (he:PE X e te):PS X (.Return (some e) pos) (Qi te):=by
 intro pins s σ H D I h
 exact wpAny_Return_some (thn (he pins s σ H _ I h) fun v s1 ⟨x,H1,I1,r1,q1⟩=>⟨x,σ,H1,I1,r1,q1⟩)
def Qp (c:TT)(t u:TS):TS:=fun D σ H=>c σ H fun b H1=>if b=true then t D σ H1 else u D σ H1
theorem cL {c:Expr}{a b:List Stmt}{tc:TT}(hc:PT X c tc)(ha:PSs X a t)(hb:PSs X b u):PS X (.If c a b pos) (Qp tc t u):=by
 intro pins s σ H D I h
 refine wpAny_If (thn (hc pins s σ H _ I h) fun d s1 ⟨H1,I1,q1⟩=>?_)
 cases d with
 | true=>exact ha pins s1 σ H1 D I1 q1
 | false=>exact hb pins s1 σ H1 D I1 q1
end
abbrev TG:=V->St->Hp->(St->Hp->Prop)->Prop
abbrev TGs:=List V->St->Hp->(St->Hp->Prop)->Prop
def PG (X:Cx)(target:Expr)(t:TG):Prop :=
 ∀ (pins:List (Addr×Obj)) (s:Shared) (σ:St) (H:Hp) (v:V) (u:Value) (Q:St->Hp->Prop),Inv X pins σ H s->bJ v u->t v σ H Q ->
  wpAny (model X.prog X.w) X.A (assign target X.env u) (fun _ s'=>∃ σ' H',Inv X pins σ' H' s'∧Q σ' H') X.xe s
def PGs (X:Cx)(ts:List Expr)(t:TGs):Prop :=
 ∀ (pins:List (Addr×Obj)) (s:Shared) (σ:St) (H:Hp) (vs:List V) (us:List Value) (Q:St->Hp->Prop),Inv X pins σ H s->bX vs us->t vs σ H Q ->
  wpAny (model X.prog X.w) X.A (assignInOrder ((assignEach ts X.env).map (·.2)) us) (fun _ s'=>∃ σ' H',Inv X pins σ' H' s'∧Q σ' H') X.xe s
abbrev Ps:=V->V->V->Hp->(Hp->Prop)->Prop
def Qs (X:Cx)(t:Ps):Prop :=
 ∀ (pins:List (Addr×Obj)) (s:Shared) (σ:St) (H:Hp) (o i v:V) (ov iv u:Value) (Q:Hp->Prop),Inv X pins σ H s->bJ o ov->bJ i iv->bJ v u->t o i v H Q ->
  wpAny (model X.prog X.w) X.A (setItem ov iv u) (fun _ s'=>∃ H',Inv X pins σ H' s'∧Q H') X.xe s
section
variable {X:Cx}{pos:Pos}
def qX (i:Nat):TG:=fun v σ H Q=>Q (σ.set i (some v)) H
theorem bS {i:Nat}{x:Str}(hN:X.N.Nodup)(hi:X.N[i]?=some x)(hx:Loc X.env.scope x)(hf:X.fn x=true∨X.env.scope.names.lookup x=some .local:=by first | exact .inl rfl | exact .inr rfl | assumption):PG X (.Name x pos) (qX i):=by
 intro pins s σ H v u Q I r h
 exact wpAny_assign_Name (lL I hN hi hx r (fun s' I'=>⟨_,H,I',h⟩) hf)
def Qj:TGs:=fun vs σ H Q=>vs=[]∧Q σ H
def Nj (t:TG)(u:TGs):TGs:=fun vs σ H Q=>∃ v r,vs=v::r∧t v σ H fun σ' H'=>u r σ' H' Q
theorem sB:PGs X [] Qj:=by
 intro pins s σ H vs us Q I r h
 obtain ⟨e,h⟩:=h
 subst e
 cases r
 exact assignInOrder_nil ⟨σ,H,I,h⟩
theorem gS {e:Expr}{es:List Expr}{t:TG}{u:TGs}(h1:PG X e t)(h2:PGs X es u)
  (hs:(assignEach (e::es) X.env).map (·.2)=assign e X.env::(assignEach es X.env).map (·.2):=by rfl):PGs X (e::es) (Nj t u):=by
 intro pins s σ H vs us Q I r h
 obtain ⟨v,vr,e1,h⟩:=h
 subst e1
 cases r with
 | cons r rr =>
  rw [hs]
  refine assignInOrder_cons (thn (h1 pins s σ H _ _ _ I r h) fun _ s1 ⟨σ1,H1,I1,q1⟩=>?_)
  exact h2 pins s1 σ1 H1 _ _ Q I1 rr q1
def Ql (K:PySem.W.Frag)(n:Nat)(t:TGs):TG:=fun v σ H Q=>∃ a xs,v = .ref a∧SqT K H a xs∧xs.length=n∧t xs σ H Q
theorem xV {es:List Expr}{k:Nat}{t:TGs}{n:Nat}(hc:X.calm=true)(h:PGs X es t)
  (hn:(assignEach es X.env).length=n:=by rfl) (hst:(assignEach es X.env).findIdx? (·.1)=none:=by rfl):PG X (.Tuple es k pos) (Ql X.K n t):=by
 intro pins s σ H v u Q I r hw
 obtain ⟨a,xs,e1,hq,hl,hw⟩:=hw
 subst e1
 cases r
 obtain ⟨its,rv,ht,hz⟩:=I.tuple hq
 refine assign_Tuple_tuple (I.ok.hd hc) ht (by simp [hn,<- hl,rv.length]) hst fun h' hx=>?_
 have I1:Inv X pins σ H { s with heap:=h' }:=I.kept (t':=s.toks) fun b o e=>hx b o (Nat.ne_of_lt (Heap.lt_size e)) e
 exact h pins _ σ H xs _ Q I1 (by simpa using rv) hw
def Gq (te:TE)(g:TG):TS:=fun D σ H=>te σ H fun x H1=>g x σ H1 D.nx
theorem Ma {tg e:Expr}{te:TE}{g:TG}(he:PE X e te)(hg:PG X tg g)(hs:swapsWithSole [tg] e pos.line X.env=pure false:=by rfl)(hw:swappedStores [tg] e X.env=pure none:=by rfl)
  (h1:(assignEach [tg] X.env).map (·.2)=[assign tg X.env]:=by rfl):PS X (.Assign [tg] e pos) (Gq te g):=by
 intro pins s σ H D I h
 refine wpAny_Assign_stores (thn (he pins s σ H _ I h) fun v s1 ⟨x,H1,I1,r1,q1⟩=>?_) hs hw
 rw [h1]
 exact thn (hg pins s1 σ H1 x v _ I1 r1 q1) fun _ s2 q=>q
theorem aJ {i:Nat}{x:Str}{e:Expr}{te:TE}{pos':Pos}(hN:X.N.Nodup)(hi:X.N[i]?=some x)(hx:Loc X.env.scope x)(he:PE X e te)(hs:swapsWith e (some (.Name x pos')) pos.line X.env=pure false:=by rfl)(hf:X.fn x=true∨X.env.scope.names.lookup x=some .local:=by first | exact .inl rfl | exact .inr rfl | assumption) :
  PS X (.Assign [.Name x pos'] e pos) (Gq te (qX i)):=by
 intro pins s σ H D I h
 refine wpAny_Assign_Name (thn (he pins s σ H _ I h) fun v s1 ⟨y,H1,I1,r1,q1⟩=>?_) hs
 exact lL I1 hN hi hx r1 (fun s2 I2=>⟨_,H1,I2,q1⟩) hf
end
section
variable {X:Cx}{pos:Pos}
def Lx (c:TT)(tb:TS):TS:=fun D σ H=>∃ W:Nat->St->Hp->Prop,(∃ m,W m σ H)∧∀ m σ H,W m σ H ->
 c σ H fun b H1=>if b=true then ∃ N:St->Hp->Prop,(∀ σ' H',N σ' H'->∃ m',m'<m∧W m' σ' H')∧tb { D with nx:=N,ct:=N,bk:=D.nx } σ H1 else D.nx σ H1
theorem lD {c:Expr}{body:List Stmt}{tc:TT}{tb:TS}(hp:PassesOwn (model X.prog X.w) X.A X.env X.xe)(hc:PT X c tc)(hb:PSs X body tb):PS X (.While c body [] pos) (Lx tc tb):=by
 intro pins s σ H D I h
 obtain ⟨W,⟨m0,w0⟩,turn⟩:=h
 refine wpAny_While (codeAny_whileLoop (fun n s'=>∃ σ' H',Inv X pins σ' H' s'∧W n σ' H') ?_ m0 ⟨σ,H,I,w0⟩)
 rintro n s1 ⟨σ1,H1,I1,w1⟩
 refine wpAny_passesOwn hp (thn (hc pins s1 σ1 H1 _ I1 (turn n σ1 H1 w1)) fun b s2 ⟨H2,I2,q2⟩=>?_)
 cases b with
 | true =>
  obtain ⟨N,hN,q2⟩:=q2
  rw [if_pos rfl]
  refine wpAny_passesOwn hp (thn (hb pins s2 σ1 H2 _ I2 q2) fun f s3 q3=>?_)
  cases f with
  | next =>
   obtain ⟨σ3,H3,I3,n3⟩:=q3
   obtain ⟨m',hm,w3⟩:=hN σ3 H3 n3
   exact ⟨m',hm,σ3,H3,I3,w3⟩
  | cont =>
   obtain ⟨σ3,H3,I3,n3⟩:=q3
   obtain ⟨m',hm,w3⟩:=hN σ3 H3 n3
   exact ⟨m',hm,σ3,H3,I3,w3⟩
  | brk=>exact q3
  | ret v=>exact q3
 | false =>
  rw [if_neg Bool.false_ne_true]
  exact wpAny_execs_nil ⟨σ1,H2,I2,q2⟩
end
set_option genInjectivity false in
structure It where
 go:Nat->Hp->Prop
 yld:Nat->Hp->V->Hp->Prop
 stop:Nat->Hp->Prop
def jB (X:Cx)(pins:List (Addr×Obj))(H:Hp)(b:Addr):Prop :=
 H b=none∧b≠X.env.locals∧b∉X.fs∧(b∈X.ex∨X.s₀.heap.objs.size<=b)∧(∀ x c,X.env.cells.lookup x=some c->c≠b)∧∀ p∈X.pn++pins,p.1≠b
theorem Inv.fpOk {X:Cx}{pins:List (Addr×Obj)}{σ:St}{H H':Hp}{s:Shared}{b:Addr}(I:Inv X pins σ H s)(hb:s.heap.objs.size<=b)(hn:H' b=none):jB X pins H' b:=by
 refine ⟨hn,Nat.ne_of_gt (Nat.lt_of_lt_of_le I.lt hb),I.nofs hb,.inr (Nat.le_trans I.sz hb),fun x c e z=>?_,fun p hp z=>?_⟩
 ·obtain ⟨v,q⟩:=I.cell x c e
  exact absurd (Nat.lt_of_lt_of_le q.lt (by rw [z];exact hb)) (Nat.lt_irrefl _)
 ·exact absurd (Nat.lt_of_lt_of_le (Heap.lt_size (I.pin p hp).1) (by rw [z];exact hb)) (Nat.lt_irrefl _)
set_option genInjectivity false in
structure pA (P:Program)(w:World)(K:PySem.W.Frag)(tg:Expr)(J:It)(fp:List Addr)(it:Addr)(tn:Nat->Heap->Prop):Prop where
 mem:it∈fp
 obj:∀ i h,tn i h->∀ b∈fp,∃ o,h.get? b=some o∧∀ v,o.data≠.cell v
 keep:∀ i h h',tn i h->(∀ b∈fp,∀ o,h.get? b=some o->h'.get? b=some o)->tn i h'
 item:∀ (X:Cx),X.prog=P->X.w=w->X.K=K->X.calm=true->∀ (i:Nat) (pins:List (Addr×Obj)) (s:Shared) (σ:St) (H:Hp) (E:Value->Shared->Prop),Inv X pins σ H s->(∀ b∈fp,jB X pins H b)->tn i s.heap->J.go i H ->
  wpAny (model P w) X.A (pyNext (.ref it)) (fun r s1=>∃ u,r=some u ∧
   wpAny (model P w) X.A (letOwnedTupleGo tg (.ref it) u) (fun _ s2=>∃ x H',Inv X pins σ H' s2∧bJ x u∧J.yld i H x H'∧tn (i+1) s2.heap∧∀ b∈fp,H' b=none) E s1) E s
 done:∀ (X:Cx),X.prog=P->X.w=w->X.K=K->X.calm=true->∀ (i:Nat) (pins:List (Addr×Obj)) (s:Shared) (σ:St) (H:Hp) (E:Value->Shared->Prop),Inv X pins σ H s->(∀ b∈fp,jB X pins H b)->tn i s.heap->J.stop i H ->
  wpAny (model P w) X.A (pyNext (.ref it)) (fun r s1=>r=none∧Inv X pins σ H s1) E s
 self:∀ (A:Around) (i:Nat) (s:Shared) (Q:Value->Shared->Prop) (E:Value->Shared->Prop),tn i s.heap->Q (.ref it) s->wpAny (model P w) A (pyIter (.ref it)) Q E s
abbrev TI:=St->Hp->(It->Hp->Prop)->Prop
def PIE (X:Cx)(pins:List (Addr×Obj))(σ:St)(tg:Expr)(R:It->Hp->Prop)(itv:Value)(s2:Shared):Prop :=
 ∃ (it:Addr) (fp:List Addr) (tn:Nat->Heap->Prop) (J:It) (H':Hp),itv = .ref it∧Inv X pins σ H' s2∧pA X.prog X.w X.K tg J fp it tn∧tn 0 s2.heap∧(∀ b∈fp,jB X pins H' b)∧R J H'
def PI (X:Cx)(tg iter:Expr)(wi:TI):Prop :=
 ∀ (pins:List (Addr×Obj)) (s:Shared) (σ:St) (H:Hp) (R:It->Hp->Prop),Inv X pins σ H s->wi σ H R ->
  wpAny (model X.prog X.w) X.A (eval iter X.env) (fun v s1=>wpAny (model X.prog X.w) X.A (pyIter v) (PIE X pins σ tg R) X.xe s1) X.xe s
theorem zD {M : Model} {A : Around} {E : Value → Shared → Prop} {s : Shared} {tg : Expr} {it : Addr} {u : Value} {o : Obj} {n : String} {vs : Array Value} {Q : Unit → Shared → Prop} (ho : s.heap.get? it = some o) (hc : o.cls = .type n) (hd : o.data = .fields vs)
    (hn : ["enumerate", "zip", "dict_itemiterator", "dict_reverseitemiterator", "odict_iterator", "itertools.zip_longest", "itertools.pairwise"].contains n = false) (hQ : Q () s) : wpAny M A (letOwnedTupleGo tg (.ref it) u) Q E s := by
  unfold letOwnedTupleGo
  cases tg <;> first
    | exact wpAny_pure hQ
    | (cases u <;> first
        | exact wpAny_pure hQ
        | (refine wpAny_bind (wpAny_load ho ?_)
           rw [hc, hd]
           show wpAny M A (if (["enumerate", "zip", "dict_itemiterator", "dict_reverseitemiterator", "odict_iterator", "itertools.zip_longest", "itertools.pairwise"].contains n && vs[0]? == some (rawInt _)) = true then _ else _) Q E s
           rw [if_neg (by intro h; rw [hn, Bool.false_and] at h; cases h)]
           exact wpAny_pure hQ))
def Itl (K:PySem.W.Frag)(a:Addr):It :=
 ⟨fun i H=>∃ xs x,SqL K H a xs∧xs[i]?=some x,fun i H x H'=>H'=H∧∀ xs,SqL K H a xs->xs[i]?=some x,fun i H=>∃ xs,SqL K H a xs∧xs.length<=i⟩
def Itt (K:PySem.W.Frag)(a:Addr):It :=
 ⟨fun i H=>∃ xs x,SqT K H a xs∧xs[i]?=some x,fun i H x H'=>H'=H∧∀ xs,SqT K H a xs->xs[i]?=some x,fun i H=>∃ xs,SqT K H a xs∧xs.length<=i⟩
def Itr (lo:Int)(n:Nat):It:=⟨fun i _=>i<n,fun i H x H'=>H'=H∧x = .int (lo+i),fun i _=>n<=i⟩
theorem Bt {P:Program}{w:World}{K:PySem.W.Frag}{tg:Expr}(a it:Addr):pA P w K tg (Itl K a) [it] it (fun i h=>h.IsListIter it a i) where
 mem:=by simp
 obj:=fun i h st b hb=>by
  have e:b=it:=by simpa using hb
  subst e
  obtain ⟨o,e,c,d⟩:=st
  exact ⟨o,e,fun v z=>by rw [d] at z;cases z⟩
 keep:=fun i h h' st k=>st.at fun o e=>k it (by simp) o e
 item:=by
  intro X hP hw hK hc i pins s σ H E I hf st hg
  subst hP hw hK
  obtain ⟨xs,x,hq,hx⟩:=hg
  obtain ⟨its,rv,p,hz⟩:=I.list hq
  obtain ⟨u,hu,ru⟩:=rv.get hx
  obtain ⟨f0,f1,f2,f3,f4,f5⟩:=hf it (by simp)
  refine wpAny_pyNext_list_item st p.isList (x:=u) (by simpa using hu) fun h' st' sb=>?_
  have I1:Inv X pins σ H { s with heap:=h' }:=I.turned (t':=s.toks) (fun b o hb e=>(sb.2 b hb).trans e) f0 f1 f3 f4 f5
  obtain ⟨o,e,c,d⟩:=id st'
  exact ⟨u,rfl,zD (s:={ s with heap:=h' }) e c d (by decide) ⟨x,H,I1,ru,⟨rfl,fun ys hy=>by rw [I.list_inj hy hq];exact hx⟩,st',fun b hb=>(hf b hb).1⟩⟩
 done:=by
  intro X hP hw hK hc i pins s σ H E I hf st hg
  subst hP hw hK
  obtain ⟨xs,hq,hx⟩:=hg
  obtain ⟨its,rv,p,hz⟩:=I.list hq
  obtain ⟨f0,f1,f2,f3,f4,f5⟩:=hf it (by simp)
  have hl:=rv.length
  exact wpAny_pyNext_list_end (I.ok.hd hc) st p.isList (by simp;omega) fun h' eb=>⟨rfl,I.turned (t':=s.toks) (fun b o hb e=>eb b o hb e) f0 f1 f3 f4 f5⟩
 self:=fun _ _ _ _ _ st h=>wpAny_pyIter_listiter st h
theorem wO {P:Program}{w:World}{K:PySem.W.Frag}{tg:Expr}(a it:Addr):pA P w K tg (Itt K a) [it] it (fun i h=>h.IsTupleIter it a i) where
 mem:=by simp
 obj:=fun i h st b hb=>by
  have e:b=it:=by simpa using hb
  subst e
  obtain ⟨o,e,c,d⟩:=st
  exact ⟨o,e,fun v z=>by rw [d] at z;cases z⟩
 keep:=fun i h h' st k=>st.at fun o e=>k it (by simp) o e
 item:=by
  intro X hP hw hK hc i pins s σ H E I hf st hg
  subst hP hw hK
  obtain ⟨xs,x,hq,hx⟩:=hg
  obtain ⟨its,rv,p,hz⟩:=I.tuple hq
  obtain ⟨u,hu,ru⟩:=rv.get hx
  obtain ⟨f0,f1,f2,f3,f4,f5⟩:=hf it (by simp)
  refine wpAny_pyNext_tuple_item st (show s.heap.IsTuple a its.toArray from p) (x:=u) (by simpa using hu) fun h' st' sb=>?_
  have I1:Inv X pins σ H { s with heap:=h' }:=I.turned (t':=s.toks) (fun b o hb e=>(sb.2 b hb).trans e) f0 f1 f3 f4 f5
  obtain ⟨o,e,c,d⟩:=id st'
  exact ⟨u,rfl,zD (s:={ s with heap:=h' }) e c d (by decide) ⟨x,H,I1,ru,⟨rfl,fun ys hy=>by rw [I.tuple_inj hy hq];exact hx⟩,st',fun b hb=>(hf b hb).1⟩⟩
 done:=by
  intro X hP hw hK hc i pins s σ H E I hf st hg
  subst hP hw hK
  obtain ⟨xs,hq,hx⟩:=hg
  obtain ⟨its,rv,p,hz⟩:=I.tuple hq
  obtain ⟨f0,f1,f2,f3,f4,f5⟩:=hf it (by simp)
  have hl:=rv.length
  exact wpAny_pyNext_tuple_end (I.ok.hd hc) st (show s.heap.IsTuple a its.toArray from p) (by simp;omega) fun h' eb=>⟨rfl,I.turned (t':=s.toks) (fun b o hb e=>eb b o hb e) f0 f1 f3 f4 f5⟩
 self:=fun _ _ _ _ _ st h=>wpAny_pyIter_tupleiter st h
theorem wG {P:Program}{w:World}{K:PySem.W.Frag}{tg:Expr}(it:Addr)(lo:Int)(n:Nat):pA P w K tg (Itr lo n) [it] it (fun i h=>IsRangeIter h it (lo+(i:Nat)*1) ((n:Int)-(i:Nat)) 1) where
 mem:=by simp
 obj:=fun i h st b hb=>by
  have e:b=it:=by simpa using hb
  subst e
  exact ⟨_,st,fun v z=>by
   have z':Data.fields _=Data.cell v:=z
   cases z'⟩
 keep:=fun i h h' st k=>k it (by simp) _ st
 item:=by
  intro X hP hw hK hc i pins s σ H E I hf st hg
  subst hP hw hK
  obtain ⟨f0,f1,f2,f3,f4,f5⟩:=hf it (by simp)
  have W:=Walks.range (prog:=X.prog) (w:=X.w) (I.ok.hd hc) it lo 1 n
  refine W.item i s _ _ hg st fun v h' tk hv st' kk=>?_
  obtain ⟨t,rfl⟩:=hv
  have I1:Inv X pins σ H { s with heap:=h',toks:=tk }:=I.turned (fun b o hb e=>kk b o (by simpa using hb) e) f0 f1 f3 f4 f5
  refine ⟨_,rfl,zD (s:={ s with heap:=h',toks:=tk }) (n := "range_iterator") st' rfl rfl (by decide) ⟨.int (lo+i),H,I1,⟨t,?_⟩,⟨rfl,rfl⟩,st',fun b hb=>(hf b hb).1⟩⟩
  rw [Int.mul_one]
 done:=by
  intro X hP hw hK hc i pins s σ H E I hf st hg
  subst hP hw hK
  obtain ⟨f0,f1,f2,f3,f4,f5⟩:=hf it (by simp)
  exact wpAny_pyNext_range_end (I.ok.hd hc) st (by have:n<=i:=hg;omega) fun h' eb=>⟨rfl,I.turned (t':=s.toks) (fun b o hb e=>eb b o hb e) f0 f1 f3 f4 f5⟩
 self:=fun _ _ _ _ _ st h=>wpAny_pyIter_rangeiter st h
end L2
namespace L2
open PySem PySem.Spec PyProof.Rows
section
variable {X:Cx}{tg:Expr}
def Jw (K:PySem.W.Frag)(tl:TE):TI:=fun σ H R=>tl σ H fun x H1=>∃ a,x = .ref a∧(∃ xs,SqL K H1 a xs)∧R (Itl K a) H1
def Pm (K:PySem.W.Frag)(tl:TE):TI:=fun σ H R=>tl σ H fun x H1=>∃ a,x = .ref a∧(∃ xs,SqT K H1 a xs)∧R (Itt K a) H1
theorem cD {l:Expr}{tl:TE}(hl:PE X l tl):PI X tg l (Jw X.K tl):=by
 intro pins s σ H R I h
 refine thn (hl pins s σ H _ I h) fun v s1 ⟨x,H1,I1,r1,q1⟩=>?_
 obtain ⟨a,e,⟨xs,hq⟩,q⟩:=q1
 subst e
 cases r1
 obtain ⟨its,rv,p,hz⟩:=I1.list hq
 refine wpAny_pyIter_list p.isList ?_
 refine ⟨s1.heap.objs.size,[s1.heap.objs.size],_,_,H1,rfl,I1.kept (t':=s1.toks) fun b o e=>Heap.get?_push_of_some _ e,Bt a _,⟨_,Heap.get?_push_size _ rfl,rfl,rfl⟩,fun b hb=>?_,q⟩
 have e:b=s1.heap.objs.size:=by simpa using hb
 subst e
 exact I1.fpOk (Nat.le_refl _) (I1.hok.fresh (Nat.le_refl _))
theorem xR {l:Expr}{tl:TE}(hl:PE X l tl):PI X tg l (Pm X.K tl):=by
 intro pins s σ H R I h
 refine thn (hl pins s σ H _ I h) fun v s1 ⟨x,H1,I1,r1,q1⟩=>?_
 obtain ⟨a,e,⟨xs,hq⟩,q⟩:=q1
 subst e
 cases r1
 obtain ⟨its,rv,p,hz⟩:=I1.tuple hq
 refine wpAny_pyIter_tuple (show s1.heap.IsTuple a its.toArray from p) ?_
 refine ⟨s1.heap.objs.size,[s1.heap.objs.size],_,_,H1,rfl,I1.kept (t':=s1.toks) fun b o e=>Heap.get?_push_of_some _ e,wO a _,⟨_,Heap.get?_push_size _ rfl,rfl,rfl⟩,fun b hb=>?_,q⟩
 have e:b=s1.heap.objs.size:=by simpa using hb
 subst e
 exact I1.fpOk (Nat.le_refl _) (I1.hok.fresh (Nat.le_refl _))
theorem Dy {pins:List (Addr×Obj)}{σ:St}{H:Hp}{s:Shared}{R:It->Hp->Prop}{E:Value->Shared->Prop}{lo hi:Int}{t u v:Tok}{tk:Nat}(I:Inv X pins σ H s)(h1 : -(2 ^ 62)<=lo)(h2:lo<2 ^ 62)(h3 : -(2 ^ 62)<=hi)(h4:hi<2 ^ 62)
  (q:R (Itr lo (hi-lo).toNat) H):wpAny (model X.prog X.w) X.A (pyIter (.ref s.heap.objs.size)) (PIE X pins σ tg R) E { s with heap:=s.heap.push { cls:=.type "range",data:=.fields #[.int lo t,.int hi u,.int 1 v] },toks:=tk }:=by
 refine wpAny_pyIter_range (IsRange.new ..) (small_one h1 h2 h3 h4) ?_
 have I1:Inv X pins σ H { s with heap:=s.heap.push { cls:=.type "range",data:=.fields #[.int lo t,.int hi u,.int 1 v] },toks:=tk }:=I.kept fun b o e=>Heap.get?_push_of_some _ e
 refine ⟨(s.heap.push { cls:=.type "range",data:=.fields #[.int lo t,.int hi u,.int 1 v] }).objs.size,[(s.heap.push { cls:=.type "range",data:=.fields #[.int lo t,.int hi u,.int 1 v] }).objs.size],_,_,H,rfl,
  I1.kept (t':=tk) fun b o e=>Heap.get?_push_of_some _ e,wG _ lo (hi-lo).toNat,?_,fun b hb=>?_,q⟩
 ·have e1:lo+((0:Nat):Int)*1=lo:=by simp
  have e2:(((hi-lo).toNat:Nat):Int)-((0:Nat):Int)=Builtin.Range.rangeSize lo hi 1:=by rw [rangeSize_one];split <;> omega
  show IsRangeIter _ _ (lo+((0:Nat):Int)*1) ((((hi-lo).toNat:Nat):Int)-((0:Nat):Int)) 1
  rw [e1,e2]
  exact Heap.get?_push_size _ rfl
 ·have e:b=(s.heap.push { cls:=.type "range",data:=.fields #[.int lo t,.int hi u,.int 1 v] }).objs.size:=by simpa using hb
  subst e
  exact I1.fpOk (Nat.le_refl _) (I1.hok.fresh (Nat.le_refl _))
def Ou (ta:TA):TI:=fun σ H R=>ta σ H fun vs H1=>∃ j:Int,vs=[.int j]∧-(2 ^ 62)<=j∧j<2 ^ 62∧R (Itr 0 j.toNat) H1
theorem gC {a:Expr}{ta:TA}{p pos:Pos}(hg:Gl X "range")(hm:X.mg "range" = none)(ha:PA X [a] ta)(hs:starEach [a] X.env=[(false,eval a X.env)]:=by rfl):PI X tg (.Call (.Name "range" p) [a] [] pos) (Ou ta):=by
 intro pins s σ H R I h
 refine Call_ (mC I hg hm boot_range (PyProof.Rows.callWith_type1 (thn (ha pos pins s σ H _ I h) fun us s1 ⟨vs,H1,I1,r1,q1⟩=>?_) hs rfl))
 obtain ⟨j,e,q1,q2,q⟩:=q1
 subst e
 cases r1 with
 | cons r rr =>
  cases rr
  obtain ⟨t,rfl⟩:=r
  exact call_range_1 (Dy I1 (by omega) (by omega) q1 q2 (by simpa using q))
def Qm (wi:TI)(g:TG)(tb:TS):TS:=fun D σ H=>wi σ H fun J H1=>∃ W:Nat->Nat->St->Hp->Prop,(∃ m,W 0 m σ H1)∧∀ i m σ H,W i m σ H ->
 (J.stop i H∧D.nx σ H)∨(J.go i H∧∃ N:St->Hp->Prop,(∀ σ' H',N σ' H'->∃ m',m'<m∧W (i+1) m' σ' H')∧∀ x H',J.yld i H x H'->g x σ H' fun σ2 H2=>tb { D with nx:=N,ct:=N,bk:=D.nx } σ2 H2)
def jI (fp:List Addr)(h:Heap):List (Addr×Obj):=fp.filterMap fun b=>(h.get? b).map fun o=>(b,o)
theorem cK {fp:List Addr}{h:Heap}{b:Addr}{o:Obj}(hb:b∈fp)(e:h.get? b=some o):(b,o)∈jI fp h:=List.mem_filterMap.mpr ⟨b,hb,by rw [e];rfl⟩
theorem Aw {fp:List Addr}{h:Heap}{p:Addr×Obj}(hp:p∈jI fp h):p.1∈fp∧h.get? p.1=some p.2:=by
 obtain ⟨b,hb,e⟩:=List.mem_filterMap.mp hp
 cases q:h.get? b with
 | none=>rw [q] at e;cases e
 | some o =>
  rw [q] at e
  have e':(b,o)=p:=Option.some.inj e
  subst e'
  exact ⟨hb,q⟩
theorem Inv.pinned {pins:List (Addr×Obj)}{σ:St}{H:Hp}{s:Shared}{fp:List Addr}(I:Inv X pins σ H s)(hf:∀ b∈fp,jB X pins H b)(ho:∀ b∈fp,∃ o,s.heap.get? b=some o∧∀ v,o.data≠.cell v):Inv X (pins++jI fp s.heap) σ H s :=
 I.pins_of fun p hp=>(List.mem_append.mp hp).elim (fun z=>I.pin p (List.mem_append_right _ z)) fun z=>by
  obtain ⟨hb,e⟩:=Aw z
  obtain ⟨f0,f1,f2,_⟩:=hf p.1 hb
  obtain ⟨o,e',d⟩:=ho p.1 hb
  rw [e] at e';cases e'
  exact ⟨e,f0,f1,f2,d⟩
theorem Inv.unpinned {pins pl:List (Addr×Obj)}{σ:St}{H:Hp}{s:Shared}(I:Inv X (pins++pl) σ H s):Inv X pins σ H s:=I.pins_of fun p hp=>I.pin p (List.mem_append_right _ (List.mem_append_left _ hp))
theorem dA {iter:Expr}{body:List Stmt}{wi:TI}{g:TG}{tb:TS}{pos:Pos}(hp:PassesOwn (model X.prog X.w) X.A X.env X.xe)(hc:X.calm=true)(hi:PI X tg iter wi)(hg:PG X tg g)(hb:PSs X body tb)
  (hs:∀ x,foldedSetIterable iter X.env x=pure x:=by intro _;rfl):PS X (.For tg iter body [] pos) (Qm wi g tb):=by
 intro pins s σ H D I h
 refine wpAny_For (thn (hi pins s σ H _ I h) fun v s1 h1=>thn h1 fun itv s2 h2=>?_) hs
 obtain ⟨it,fp,tn,J,H2,e,I2,T,st2,f2,W,⟨m0,w0⟩,turn⟩:=h2
 subst e
 have stat:∀ {H':Hp},(∀ b∈fp,H' b=none)->∀ b∈fp,jB X pins H' b:=fun hn b hb=>⟨hn b hb,(f2 b hb).2⟩
 refine codeAny_forLoop_any (fun n s'=>∃ i σ' H',Inv X pins σ' H' s'∧tn i s'.heap∧(∀ b∈fp,H' b=none)∧W i n σ' H') ?_ m0 ⟨0,σ,H2,I2,st2,fun b hb=>(f2 b hb).1,w0⟩
 rintro n s3 ⟨i,σ3,H3,I3,st3,fr3,w3⟩
 rcases turn i n σ3 H3 w3 with ⟨stop,qn⟩ | ⟨go,N,hN,step⟩
 ·refine wpAny_passesOwn hp (thn (T.done X rfl rfl rfl hc i pins s3 σ3 H3 X.xe I3 (stat fr3) st3 stop) fun r s4 ⟨hr,I4⟩=>?_)
  subst hr
  exact wpAny_execs_nil ⟨σ3,H3,I4,qn⟩
 ·refine wpAny_passesOwn hp (thn (T.item X rfl rfl rfl hc i pins s3 σ3 H3 X.xe I3 (stat fr3) st3 go) fun r s4 ⟨u,hr,h4⟩=>?_)
  subst hr
  refine wpAny_passesOwn hp (thn h4 fun _ s5 ⟨x,H5,I5,r5,y5,st5,fr5⟩=>?_)
  have I5':=I5.pinned (stat fr5) (T.obj _ _ st5)
  refine wpAny_passesOwn hp (thn (hg _ s5 σ3 H5 x u _ I5' r5 (step x H5 y5)) fun _ s6 ⟨σ6,H6,I6,q6⟩=>?_)
  refine wpAny_passesOwn hp (thn (hb _ s6 σ6 H6 _ I6 q6) fun f s7 q7=>?_)
  have again:∀ {σ7:St} {H7:Hp},Inv X (pins++jI fp s5.heap) σ7 H7 s7->N σ7 H7->∃ m,m<n∧∃ i σ' H',Inv X pins σ' H' s7∧tn i s7.heap∧(∀ b∈fp,H' b=none)∧W i m σ' H':=fun {σ7 H7} I7 n7=>by
   obtain ⟨m',hm,w7⟩:=hN σ7 H7 n7
   refine ⟨m',hm,i+1,σ7,H7,I7.unpinned,T.keep _ _ _ st5 fun b hb o e=>(I7.pin (b,o) (List.mem_append_right _ (List.mem_append_right _ (cK hb e)))).1,fun b hb=>?_,w7⟩
   obtain ⟨o,e,d⟩:=T.obj _ _ st5 b hb
   exact (I7.pin (b,o) (List.mem_append_right _ (List.mem_append_right _ (cK hb e)))).2.1
  cases f with
  | next=>obtain ⟨σ7,H7,I7,n7⟩:=q7;exact again I7 n7
  | cont=>obtain ⟨σ7,H7,I7,n7⟩:=q7;exact again I7 n7
  | brk=>obtain ⟨σ7,H7,I7,q7⟩:=q7;exact ⟨σ7,H7,I7.unpinned,q7⟩
  | ret v=>obtain ⟨x7,σ7,H7,I7,r7,q7⟩:=q7;exact ⟨x7,σ7,H7,I7.unpinned,r7,q7⟩
end
theorem dS {K:PySem.W.Frag}{a:Addr}{xs:List V}{g:TG}{tb:TS}{D:kL}{σ:St}{H:Hp}(Pv:Nat->St->Hp->Prop)(h0:Pv 0 σ H)(hl:∀ i σ H,i<=xs.length->Pv i σ H->SqL K H a xs)
  (hs:∀ i x σ H,xs[i]?=some x->Pv i σ H->g x σ H fun σ2 H2=>tb { D with nx:=Pv (i+1),ct:=Pv (i+1),bk:=D.nx } σ2 H2) (hd:∀ σ H,Pv xs.length σ H->D.nx σ H) :
  ∃ W:Nat->Nat->St->Hp->Prop,(∃ m,W 0 m σ H)∧∀ i m σ H,W i m σ H ->
   ((Itl K a).stop i H∧D.nx σ H)∨((Itl K a).go i H∧∃ N:St->Hp->Prop,(∀ σ' H',N σ' H'->∃ m',m'<m∧W (i+1) m' σ' H')∧∀ x H',(Itl K a).yld i H x H'->g x σ H' fun σ2 H2=>tb { D with nx:=N,ct:=N,bk:=D.nx } σ2 H2):=by
 refine ⟨fun i m σ H=>m=xs.length-i∧i<=xs.length∧Pv i σ H,⟨xs.length,by simp,Nat.zero_le _,h0⟩,?_⟩
 rintro i m σ H ⟨rfl,hi,p⟩
 have q:=hl i σ H hi p
 by_cases hlt:i<xs.length
 ·refine .inr ⟨⟨xs,xs[i],q,by simp [hlt]⟩,Pv (i+1),fun σ' H' p'=>⟨xs.length-(i+1),by omega,rfl,hlt,p'⟩,fun x H' y=>?_⟩
  obtain ⟨e,y⟩:=y
  subst e
  exact hs i x σ _ (y xs q) p
 ·have e:i=xs.length:=by omega
  subst e
  exact .inl ⟨⟨xs,q,Nat.le_refl _⟩,hd σ H p⟩
theorem gB {lo:Int}{n:Nat}{g:TG}{tb:TS}{D:kL}{σ:St}{H:Hp}(Pv:Nat->St->Hp->Prop)(h0:Pv 0 σ H)
  (hs:∀ i σ H,i<n->Pv i σ H->g (.int (lo+i)) σ H fun σ2 H2=>tb { D with nx:=Pv (i+1),ct:=Pv (i+1),bk:=D.nx } σ2 H2) (hd:∀ σ H,Pv n σ H->D.nx σ H) :
  ∃ W:Nat->Nat->St->Hp->Prop,(∃ m,W 0 m σ H)∧∀ i m σ H,W i m σ H ->
   ((Itr lo n).stop i H∧D.nx σ H)∨((Itr lo n).go i H∧∃ N:St->Hp->Prop,(∀ σ' H',N σ' H'->∃ m',m'<m∧W (i+1) m' σ' H')∧∀ x H',(Itr lo n).yld i H x H'->g x σ H' fun σ2 H2=>tb { D with nx:=N,ct:=N,bk:=D.nx } σ2 H2):=by
 refine ⟨fun i m σ H=>m=n-i∧i<=n∧Pv i σ H,⟨n,by simp,Nat.zero_le _,h0⟩,?_⟩
 rintro i m σ H ⟨rfl,hi,p⟩
 by_cases hlt:i<n
 ·refine .inr ⟨hlt,Pv (i+1),fun σ' H' p'=>⟨n-(i+1),by omega,rfl,hlt,p'⟩,fun x H' y=>?_⟩
  obtain ⟨e,y⟩:=y
  subst e y
  exact hs i σ _ hlt p
 ·have e:i=n:=by omega
  subst e
  exact .inl ⟨Nat.le_refl _,hd σ H p⟩
end L2
namespace L2
open PySem PySem.Spec PyProof.Rows
abbrev R2:=V->V->Hp->VK->Prop
def OpR (X:Cx)(f:Value->Value->Sem Value)(r:R2):Prop :=
 ∀ (pins:List (Addr×Obj)) (s:Shared) (σ:St) (H:Hp) (x y:V) (v u:Value) (Q:VK),Inv X pins σ H s->bJ x v->bJ y u->r x y H Q ->
  wpAny (model X.prog X.w) X.A (f v u) (EP X pins σ Q) X.xe s
def UnR (X:Cx)(f:Value->Sem Value)(r:V->Hp->VK->Prop):Prop :=
 ∀ (pins:List (Addr×Obj)) (s:Shared) (σ:St) (H:Hp) (x:V) (v:Value) (Q:VK),Inv X pins σ H s->bJ x v->r x H Q ->
  wpAny (model X.prog X.w) X.A (f v) (EP X pins σ Q) X.xe s
def eO (X:Cx)(f:Value)(r:List V->Hp->VK->Prop):Prop :=
 ∀ (pins:List (Addr×Obj)) (s:Shared) (σ:St) (H:Hp) (xs:List V) (us:List Value) (Q:VK),Inv X pins σ H s->bX xs us->r xs H Q ->
  wpAny (model X.prog X.w) X.A (call f us) (EP X pins σ Q) X.xe s
def tOp (r:R2)(ta tb:TE):TE:=fun σ H Q=>ta σ H fun x H1=>tb σ H1 fun y H2=>r x y H2 Q
def tUn (r:V->Hp->VK->Prop)(ta:TE):TE:=fun σ H Q=>ta σ H fun x H1=>r x H1 Q
def rI (C:Int->Int->Prop)(g:Int->Int->V):R2:=fun x y H Q=>∃ i j,x = .int i∧y = .int j∧C i j∧Q (g i j) H
def rI0 (g:Int->Int->V):R2:=fun x y H Q=>∃ i j,x = .int i∧y = .int j∧Q (g i j) H
def rU (g:Int->V):V->Hp->VK->Prop:=fun x H Q=>∃ i,x = .int i∧Q (g i) H
section
variable {X:Cx}{a b c:Expr}{ta tb tc:TE}{pos:Pos}
theorem Mn (ha:PE X a ta)(hb:PE X b tb){pins:List (Addr×Obj)}{s:Shared}{σ:St}{H:Hp}{R:V->V->Hp->Prop}(I:Inv X pins σ H s)
  (h:ta σ H fun x H1=>tb σ H1 fun y H2=>R x y H2) {Q:Value->Shared->Prop} {f:Value->Value->Sem Value}
  (hf:∀ v u s2 x y H2,Inv X pins σ H2 s2->bJ x v->bJ y u->R x y H2->wpAny (model X.prog X.w) X.A (f v u) Q X.xe s2) :
  wpAny (model X.prog X.w) X.A (eval a X.env) (fun v s₁=>wpAny (model X.prog X.w) X.A (eval b X.env) (fun u s₂=>wpAny (model X.prog X.w) X.A (f v u) Q X.xe s₂) X.xe s₁) X.xe s:=by
 refine thn (ha pins s σ H _ I h) fun v s1 ⟨x,H1,I1,r1,q1⟩=>?_
 refine thn (hb pins s1 σ H1 _ I1 q1) fun u s2 ⟨y,H2,I2,r2,q2⟩=>?_
 exact hf v u s2 x y H2 I2 r1 r2 q2
theorem aL {op:Operator}{r:R2}(ho:OpR X (binaryOp op) r)(ha:PE X a ta)(hb:PE X b tb):PE X (.BinOp a op b pos) (tOp r ta tb):=by
 intro pins s σ H Q I h
 exact wpAny_BinOp (Mn ha hb I h fun v u s2 x y H2 I2 rx ry q=>ho pins s2 σ H2 x y v u Q I2 rx ry q)
theorem lP {op:UnaryOp}{r:V->Hp->VK->Prop}(ho:UnR X (unaryOp op) r)(ha:PE X a ta):PE X (.UnaryOp op a pos) (tUn r ta):=by
 intro pins s σ H Q I h
 exact UnaryOp_ (thn (ha pins s σ H _ I h) fun v s1 ⟨x,H1,I1,r1,q1⟩=>ho pins s1 σ H1 x v Q I1 r1 q1)
theorem opI {f:Value->Value->Sem Value}{C:Int->Int->Prop}{g:Int->Int->Int}
  (rule:∀ (i j:Int) (t u:Tok) (s:Shared) (Q:Value->Shared->Prop) (E:Value->Shared->Prop),C i j->Q (.int (g i j) s.toks) { s with toks:=s.toks+1 }->wpAny (model X.prog X.w) X.A (f (.int i t) (.int j u)) Q E s) :
  OpR X f (rI C fun i j=>.int (g i j)):=by
 intro pins s σ H x y v u Q I rx ry h
 obtain ⟨i,j,rfl,rfl,hc,q⟩:=h
 obtain ⟨t,rfl⟩:=rx
 obtain ⟨t',rfl⟩:=ry
 exact rule i j t t' s _ _ hc ⟨.int (g i j),H,I.tok _,⟨_,rfl⟩,q⟩
theorem Oq {f:Value->Value->Sem Value}{g:Int->Int->Int}
  (rule:∀ (i j:Int) (t u:Tok) (s:Shared) (Q:Value->Shared->Prop) (E:Value->Shared->Prop),Q (.int (g i j) s.toks) { s with toks:=s.toks+1 }->wpAny (model X.prog X.w) X.A (f (.int i t) (.int j u)) Q E s) :
  OpR X f (rI0 fun i j=>.int (g i j)):=by
 intro pins s σ H x y v u Q I rx ry h
 obtain ⟨i,j,rfl,rfl,q⟩:=h
 obtain ⟨t,rfl⟩:=rx
 obtain ⟨t',rfl⟩:=ry
 exact rule i j t t' s _ _ ⟨.int (g i j),H,I.tok _,⟨_,rfl⟩,q⟩
theorem Kx {f:Value->Value->Sem Value}{g:Int->Int->Bool}
  (rule:∀ (i j:Int) (t u:Tok) (s:Shared) (Q:Value->Shared->Prop) (E:Value->Shared->Prop),Q (.bool (g i j)) s->wpAny (model X.prog X.w) X.A (f (.int i t) (.int j u)) Q E s) :
  OpR X f (rI0 fun i j=>.bl (g i j)):=by
 intro pins s σ H x y v u Q I rx ry h
 obtain ⟨i,j,rfl,rfl,q⟩:=h
 obtain ⟨t,rfl⟩:=rx
 obtain ⟨t',rfl⟩:=ry
 exact rule i j t t' s _ _ ⟨.bl (g i j),H,I,rfl,q⟩
def Qf (i j:Int):Prop:=0<j∧j<1073741824
def Qe (i j:Int):Prop:=0<=j∧j<=1000000∧i.natAbs<2 ^ 64
def Mc (i j:Int):Prop:=(-(2 ^ 64)<i∧i<2 ^ 64)∨(-(2 ^ 64)<j∧j<2 ^ 64)
theorem Mc.ok {i j:Int}(h:Mc i j):IntMulOk i j:=by
 rcases h with ⟨h1,h2⟩ | ⟨h1,h2⟩
 ·exact .of_left (intBits_le_64 h1 h2)
 ·exact .of_right (intBits_le_64 h1 h2)
theorem dR:OpR X (binaryOp .Add) (rI0 fun i j=>.int (i+j)):=Oq fun _ _ _ _ _ _ _ q=>add_int q
theorem jE:OpR X (binaryOp .Sub) (rI0 fun i j=>.int (i-j)):=Oq fun _ _ _ _ _ _ _ q=>sub_int q
theorem pH:OpR X (binaryOp .Mult) (rI Mc fun i j=>.int (i*j)):=opI fun _ _ _ _ _ _ _ hc q=>mul_int q hc.ok
theorem fP:OpR X (binaryOp .FloorDiv) (rI Qf fun i j=>.int (i/j)):=opI fun i j _ _ _ _ _ hc q=>by
 have h1:(0:Int)<j:=hc.1
 have h2:j<1073741824:=hc.2
 exact floordiv_int (by omega) (by rw [Int.fdiv_eq_ediv_of_nonneg i (by omega)];exact q) (.inl (PyProof.noPylong_small (by omega)))
theorem cM:OpR X (binaryOp .Mod) (rI (fun _ j=>0<j) fun i j=>.int (i % j)):=opI fun i j _ _ _ _ _ hc q=>by
 have h1:(0:Int)<j:=hc
 exact mod_int' (by omega) (by rw [Int.fmod_eq_emod_of_nonneg i (by omega)];exact q)
theorem Mt:OpR X (binaryOp .Pow) (rI Qe fun i j=>.int (i ^ j.toNat)):=opI fun _ _ _ _ _ _ _ hc q=>pow_int_small hc.1 hc.2.1 hc.2.2 q
theorem unI {f:Value->Sem Value}{g:Int->Int}
  (rule:∀ (i:Int) (t:Tok) (s:Shared) (Q:Value->Shared->Prop) (E:Value->Shared->Prop),Q (.int (g i) s.toks) { s with toks:=s.toks+1 }->wpAny (model X.prog X.w) X.A (f (.int i t)) Q E s) :
  UnR X f (rU fun i=>.int (g i)):=by
 intro pins s σ H x v Q I rx h
 obtain ⟨i,rfl,q⟩:=h
 obtain ⟨t,rfl⟩:=rx
 exact rule i t s _ _ ⟨.int (g i),H,I.tok _,⟨_,rfl⟩,q⟩
theorem iH:UnR X (unaryOp .USub) (rU fun i=>.int (-i)):=unI fun _ _ _ _ _ q=>neg_int q
end
def Oc:V->V->Bool
 | .non,.non=>true | .non,.int _=>true | .int _,.non=>true | .non,.bl _=>true | .bl _,.non=>true | .non,.str _=>true | .str _,.non=>true
 | .int _,.int _=>true | .bl _,.bl _=>true | .str _,.str _=>true | .byt _,.byt _=>true
 | .int _,.str _=>true | .str _,.int _=>true | .bl _,.str _=>true | .str _,.bl _=>true
 | _,_=>false
def rEq:R2:=fun x y H Q=>Oc x y=true∧Q (.bl (decide (x=y))) H
def rNe:R2:=fun x y H Q=>Oc x y=true∧Q (.bl (!decide (x=y))) H
theorem nV {i j:Int}:decide (V.int i=V.int j)=(i==j):=by
 rw [Bool.eq_iff_iff]
 simp
theorem Cs {i j:Bool}:decide (V.bl i=V.bl j)=(i==j):=by
 rw [Bool.eq_iff_iff]
 simp
theorem zZ {i j:Str}:decide (V.str i=V.str j)=(i==j):=by
 rw [Bool.eq_iff_iff]
 simp
theorem zA {i j:Array UInt8}:decide (V.byt i=V.byt j)=(i.toList==j.toList):=by
 rw [Bool.eq_iff_iff]
 cases i
 cases j
 simp
section
variable {X:Cx}{a b c:Expr}{ta tb tc:TE}{pos:Pos}
theorem bW {pins:List (Addr×Obj)}{σ:St}{H:Hp}{s:Shared}{Q:VK}{k k':Bool}(I:Inv X pins σ H s)(q:Q (.bl k) H)(e:k=k'):EP X pins σ Q (.bool k') s:=by
 subst e
 exact ⟨.bl k,H,I,rfl,q⟩
theorem Jp:OpR X (compareOp .Eq) rEq:=by
 intro pins s σ H x y v u Q I rx ry h
 obtain ⟨hs,q⟩:=h
 cases x with
 | non =>
  cases rx
  cases y with
  | non=>cases ry;exact PySem.EqNone.eq_none_none (bW I q (by simp))
  | bl j=>cases ry;exact PySem.EqNone.eq_none_bool (bW I q (by simp))
  | int j=>obtain ⟨t',rfl⟩:=ry;exact PySem.EqNone.eq_none_int (bW I q (by simp))
  | str j=>obtain ⟨t',rfl⟩:=ry;exact PySem.EqNone.eq_none_str (bW I q (by simp))
  | _=>exact absurd (show false=true from hs) Bool.false_ne_true
 | bl i =>
  cases rx
  cases y with
  | non=>cases ry;exact PySem.EqNone.eq_bool_none (bW I q (by simp))
  | bl j=>cases ry;exact eq_bool (bW I q Cs)
  | str j=>obtain ⟨t',rfl⟩:=ry;exact PySem.EqMixed.eq_bool_str (bW I q (by simp))
  | _=>exact absurd (show false=true from hs) Bool.false_ne_true
 | int i =>
  obtain ⟨t,rfl⟩:=rx
  cases y with
  | non=>cases ry;exact PySem.EqNone.eq_int_none (bW I q (by simp))
  | int j=>obtain ⟨t',rfl⟩:=ry;exact eq_int (bW I q nV)
  | str j=>obtain ⟨t',rfl⟩:=ry;exact PySem.EqMixed.eq_int_str (bW I q (by simp))
  | _=>exact absurd (show false=true from hs) Bool.false_ne_true
 | str i =>
  obtain ⟨t,rfl⟩:=rx
  cases y with
  | non=>cases ry;exact PySem.EqNone.eq_str_none (bW I q (by simp))
  | bl j=>cases ry;exact PySem.EqMixed.eq_str_bool (bW I q (by simp))
  | int j=>obtain ⟨t',rfl⟩:=ry;exact PySem.EqMixed.eq_str_int (bW I q (by simp))
  | str j=>obtain ⟨t',rfl⟩:=ry;exact eq_str (bW I q zZ)
  | _=>exact absurd (show false=true from hs) Bool.false_ne_true
 | byt i =>
  obtain ⟨t,rfl⟩:=rx
  cases y with
  | byt j=>obtain ⟨t',rfl⟩:=ry;exact PySem.W.eq_bytes (bW I q zA)
  | _=>exact absurd (show false=true from hs) Bool.false_ne_true
 | _=>cases y <;> exact absurd (show false=true from hs) Bool.false_ne_true
theorem Jv:OpR X (compareOp .NotEq) rNe:=by
 intro pins s σ H x y v u Q I rx ry h
 obtain ⟨hs,q⟩:=h
 cases x with
 | non =>
  cases rx
  cases y with
  | non=>cases ry;exact PySem.EqNone.ne_none_none (bW I q (by simp))
  | bl j=>cases ry;exact PySem.EqNone.ne_none_bool (bW I q (by simp))
  | int j=>obtain ⟨t',rfl⟩:=ry;exact PySem.EqNone.ne_none_int (bW I q (by simp))
  | str j=>obtain ⟨t',rfl⟩:=ry;exact PySem.EqNone.ne_none_str (bW I q (by simp))
  | _=>exact absurd (show false=true from hs) Bool.false_ne_true
 | bl i =>
  cases rx
  cases y with
  | non=>cases ry;exact PySem.EqNone.ne_bool_none (bW I q (by simp))
  | bl j=>cases ry;exact ne_bool (bW I q (congrArg not Cs))
  | str j=>obtain ⟨t',rfl⟩:=ry;exact PySem.EqMixed.ne_bool_str (bW I q (by simp))
  | _=>exact absurd (show false=true from hs) Bool.false_ne_true
 | int i =>
  obtain ⟨t,rfl⟩:=rx
  cases y with
  | non=>cases ry;exact PySem.EqNone.ne_int_none (bW I q (by simp))
  | int j=>obtain ⟨t',rfl⟩:=ry;exact ne_int (bW I q (congrArg not nV))
  | str j=>obtain ⟨t',rfl⟩:=ry;exact PySem.EqMixed.ne_int_str (bW I q (by simp))
  | _=>exact absurd (show false=true from hs) Bool.false_ne_true
 | str i =>
  obtain ⟨t,rfl⟩:=rx
  cases y with
  | non=>cases ry;exact PySem.EqNone.ne_str_none (bW I q (by simp))
  | bl j=>cases ry;exact PySem.EqMixed.ne_str_bool (bW I q (by simp))
  | int j=>obtain ⟨t',rfl⟩:=ry;exact PySem.EqMixed.ne_str_int (bW I q (by simp))
  | str j=>obtain ⟨t',rfl⟩:=ry;exact ne_str (bW I q (congrArg not zZ))
  | _=>exact absurd (show false=true from hs) Bool.false_ne_true
 | byt i =>
  obtain ⟨t,rfl⟩:=rx
  cases y with
  | byt j=>obtain ⟨t',rfl⟩:=ry;exact PySem.W.ne_bytes (bW I q (congrArg not zA))
  | _=>exact absurd (show false=true from hs) Bool.false_ne_true
 | _=>cases y <;> exact absurd (show false=true from hs) Bool.false_ne_true
theorem uR:OpR X (compareOp .Lt) (rI0 fun i j=>.bl (decide (i<j))):=Kx fun _ _ _ _ _ _ _ q=>lt_int q
theorem Nz:OpR X (compareOp .LtE) (rI0 fun i j=>.bl (decide (i<=j))):=Kx fun _ _ _ _ _ _ _ q=>le_int q
theorem lJ:OpR X (compareOp .Gt) (rI0 fun i j=>.bl (decide (j<i))):=Kx fun _ _ _ _ _ _ _ q=>gt_int q
theorem rR:OpR X (compareOp .NotIn) (fun x y H Q=>∃ i j,x = .str i∧y = .str j∧Q (.bl (!(!(Builtin.Str.occurrences j i 0 j.length 1).isEmpty))) H):=by
 intro pins s σ H x y v u Q I rx ry h
 obtain ⟨i,j,rfl,rfl,q⟩:=h
 obtain ⟨t,rfl⟩:=rx
 obtain ⟨t',rfl⟩:=ry
 exact notIn_str (bW I q rfl)
theorem bF (b:Expr){op:CmpOp}(h:op≠.In:=by decide)(h2:op≠.NotIn:=by decide):behindInMarks op b=false:=by
 have e1:(op==CmpOp.In)=false:=by cases op <;> first | rfl | exact absurd rfl h
 have e2:(op==CmpOp.NotIn)=false:=by cases op <;> first | rfl | exact absurd rfl h2
 cases b <;> simp [behindInMarks,e1,e2]
theorem Id {op:CmpOp}{r:R2}(ho:OpR X (compareOp op) r)(ha:PE X a ta)(hb:PE X b tb)(hm:behindInMarks op b=false):PE X (.Compare a [op] [b] pos) (tOp r ta tb):=by
 intro pins s σ H Q I h
 exact wpAny_Compare1 (Mn ha hb I h fun v u s2 x y H2 I2 rx ry q=>ho pins s2 σ H2 x y v u Q I2 rx ry q) hm
def Oa (t:TE):TT:=fun σ H Q=>t σ H fun x H'=>∃ k,x = .bl k∧Q k H'
theorem aQ {op:CmpOp}{r:R2}(ho:OpR X (compareOp op) r)(ha:PE X a ta)(hb:PE X b tb)(hm:behindInMarks op b=false):PT X (.Compare a [op] [b] pos) (Oa (tOp r ta tb)):=by
 intro pins s σ H Q I h
 refine wpAny_isTrue_Compare1 (thn (ha pins s σ H _ I h) fun v s1 ⟨x,H1,I1,r1,q1⟩=>thn (hb pins s1 σ H1 _ I1 q1) fun u s2 ⟨y,H2,I2,r2,q2⟩ =>
  thn (ho pins s2 σ H2 x y v u _ I2 r1 r2 q2) fun c s3 ⟨z,H3,I3,r3,k,e,q3⟩=>?_) hm
 subst e
 cases r3
 exact wpAny_truthy_bool ⟨H3,I3,q3⟩
theorem oO:(sizeLine:Nat)<2 ^ 63:=by rw [sizeLine_eq];decide
theorem xM:OpR X (binaryOp .Add) (fun x y H Q=>∃ i j,x = .str i∧y = .str j∧i.length+j.length<=sizeLine∧Q (.str (i++j)) H):=by
 intro pins s σ H x y v u Q I rx ry h
 obtain ⟨i,j,rfl,rfl,hz,q⟩:=h
 obtain ⟨t,rfl⟩:=rx
 obtain ⟨t',rfl⟩:=ry
 exact add_str (fun t' tk=>⟨.str (i++j),H,I.tok _,⟨_,rfl⟩,q⟩) hz
theorem fV {x:V}{us:List Value}(r:bX [x] us):∃ u,us=[u]∧bJ x u:=by
 cases r with
 | cons r1 r2=>cases r2;exact ⟨_,rfl,r1⟩
theorem Ol {x y:V}{us:List Value}(r:bX [x,y] us):∃ u w',us=[u,w']∧bJ x u∧bJ y w':=by
 cases r with
 | cons r1 r2 =>
  cases r2 with
  | cons r3 r4=>cases r4;exact ⟨_,_,rfl,r1,r3⟩
theorem Cv:eO X (.builtin "abs") (fun xs H Q=>∃ i,xs=[.int i]∧Q (.int (if i<0 then -i else i)) H):=by
 intro pins s σ H xs us Q I r h
 obtain ⟨i,rfl,q⟩:=h
 obtain ⟨u,rfl,t,rfl⟩:=fV r
 exact call_abs_int fun u tk=>⟨.int (if i<0 then -i else i),H,I.tok _,⟨_,rfl⟩,q⟩
end
end L2
namespace L2
open PySem PySem.Spec PyProof.Rows
set_option genInjectivity false in
structure Ax (h:Heap)(x dx C:Addr)(mA:Str->Option Value):Prop where
 obj:h.get? x=some (PySem.W.instObj C dx)
 ns:h.Ns1 dx mA
 ne:dx≠x
theorem Cj {h:Heap}{dx:Addr}{mA:Str->Option Value}(n:h.Ns1 dx mA):∃ od,h.get? dx=some od∧∀ name,PySem.W.lookIn name od=some (mA name):=by
 obtain ⟨o,es,ep,ho,hd,hk,_,hm⟩:=n
 refine ⟨o,ho,fun name=>?_⟩
 have e:=hm name
 unfold nsFind findBy at e
 rw [<- Array.find?_toList] at e
 unfold PySem.W.lookIn
 rw [hd]
 dsimp only
 split
 ·rename_i y q
  rw [q] at e
  exact congrArg some e
 ·rename_i q
  rw [q] at e
  have a:es.toList.any (·.refKey)=false:=by
   rw [List.any_eq_false]
   intro y hy
   obtain ⟨z,t,hkey⟩:=hk y (Array.mem_toList_iff.mp hy)
   simp [DictEntry.refKey,hkey]
  have a':¬ es.toList.any (·.refKey)=true:=by rw [a];exact Bool.false_ne_true
  rw [if_neg a']
  exact congrArg some e
theorem Ax.look {h:Heap}{x dx C:Addr}{mA:Str->Option Value}(I:Ax h x dx C mA):∃ od,PySem.W.InstAt h x (PySem.W.instObj C dx) C (some od)∧∀ name,PySem.W.lookIn name od=some (mA name) :=
 let ⟨od,ho,hl⟩:=Cj I.ns
 ⟨od,⟨I.obj,rfl,rfl,ho⟩,hl⟩
section
variable {prog:Program}{w:World}{A:Around}{E:Value->Shared->Prop}{s:Shared}{K:PySem.W.Frag}{x dx C f:Addr}{mA:Str->Option Value}{name:Str}{v:Value}
theorem Ir {expr:Bool}{Q:Value->Shared->Prop}(X:K.In s.heap)(I:Ax s.heap x dx C mA)(hg:PySem.W.plainGet K C name=true)(hh:PySem.W.hasDictIn K C=true)
  (ha:PySem.W.findIn K (.ref C) name=some none) (hv:mA name=some v) (hv':PySem.W.handedIn v=true) (h:Q v { s with toks:=s.toks+1 }) :
  wpAny (model prog w) A (getAttr (.ref x) name expr) Q E s:=by
 obtain ⟨od,J,hl⟩:=I.look
 exact PySem.W.get_value X J (PySem.W.plainGet_of hg).1 (PySem.W.findObj_own hh ha rfl (by rw [hl,hv])) hv' h
theorem Ix {ns:List Str}{Q:Unit->Shared->Prop}(X:K.In s.heap)(I:Ax s.heap x dx C mA)
  (hs:PySem.W.findIn K (.ref C) "__setattr__" = some (some (.builtin "object.__setattr__"))) (hp:PySem.W.plainOver K C=true) (ht:PySem.W.takerIn K C name=some none) (hh:PySem.W.hasDictIn K C=true)
  (hw:PySem.Within mA ns) (hsz:ns.length<=sizeLine)
  (h:∀ h',Ax h' x dx C (fun y=>if y=name then some v else mA y)->Heap.SameBut dx s.heap h'->Q () { s with heap:=h',toks:=s.toks+2 }) :
  wpAny (model prog w) A (setAttr (.ref x) name v) Q E s:=by
 obtain ⟨od,J,hl⟩:=I.look
 refine PySem.W.set_plain X J hs (PySem.W.osa_open (s:={ s with toks:=s.toks+1 }) (r:=none) X J hp ht fun b=>?_)
 obtain ⟨cd,hc,hd'⟩:=PySem.W.any_some hh
 have hx:s.heap.get? x=some ⟨.ref C,some dx,.plain,#[]⟩:=I.obj
 refine wpAny_bind (wpAny_pure (wpAny_bind (wpAny_bind (wpAny_loadPart hx (wpAny_bind (PySem.W.Looks.here (s:={ s with toks:=s.toks+1 }) (PySem.W.looks_clsIn X hc) ?_))))))
 rw [hd']
 refine wpAny_pure (a:=some dx) (wpAny_bind (wpAny_pure (wpAny_bind ?_)))
 refine wpAny_nsSet1 (s:={ s with toks:=s.toks+1 }) I.ns fun h' hn2 hs2=>?_
 obtain ⟨oD,esD,epD,hoD,hdD,hcD⟩:=hn2.count (PySem.Within.cons name v hw)
 refine wpAny_bind (wpAny_lookBehind hoD (by rw [hdD];exact pastItsLine_dict (Nat.le_trans hcD (by rw [List.length_cons];omega))) ?_)
 exact wpAny_pure (h _ ⟨(hs2.2 _ (Ne.symm I.ne)).trans I.obj,hn2,I.ne⟩ hs2)
theorem Fb {R:Result->Shared->Prop}{vs:List Value}{kw:List (Str×Value)}(X:K.In s.heap)(hm:PySem.W.makesIn K C=true)
  (hi:PySem.W.findIn K (.ref C) "__init__" = some (some (.ref f))) (hf:PySem.W.typeIn K (.ref f)=some (.type "function"))
  (h:codeAny (model prog w) (A.under (.builtin "type.__call__" ⟨.ref C::vs,kw⟩)) (.call (.ref f) ⟨.ref (s.heap.objs.size+1)::vs,kw⟩) (PySem.W.InitBack (s.heap.objs.size+1) R)
   { s with heap:=(s.heap.push PySem.W.emptyDict).push (PySem.W.instObj C s.heap.objs.size) }) :
  codeAny (model prog w) A (.call (.ref C) ⟨vs,kw⟩) R s:=by
 obtain ⟨hh,g,d,t,os⟩:=s
 exact PySem.W.make_core (PySem.W.makes_of X hm) (PySem.W.looks_findIn X hi) (fun self=>PySem.W.bind_fn X self hf) (.inl rfl) h
end
def iM (f:Str)(v:V):List (Str×V)->List (Str×V)
 | []=>[(f,v)]
 | (g,x)::r=>if g=f then (g,v)::r else (g,x)::iM f v r
theorem gJ (f g:Str)(v:V):∀ fs:List (Str×V),(iM f v fs).lookup g=if g=f then some v else fs.lookup g
 | []=>by
  show List.lookup g [(f,v)]=_
  by_cases h:g=f
  ·have hb:(g==f)=true:=beq_iff_eq.mpr h
   simp only [List.lookup,hb,if_pos h]
  ·have hb:(g==f)=false:=beq_eq_false_iff_ne.mpr h
   simp only [List.lookup,hb,if_neg h]
 | (k,x)::r=>by
  have ih:=gJ f g v r
  rw [show iM f v ((k,x)::r)=(if k=f then (k,v)::r else (k,x)::iM f v r) from rfl]
  by_cases hk:k=f
  ·rw [if_pos hk]
   by_cases h:g=k
   ·have hb:(g==k)=true:=beq_iff_eq.mpr h
    simp only [List.lookup,hb,if_pos (h.trans hk)]
   ·have hb:(g==k)=false:=beq_eq_false_iff_ne.mpr h
    simp only [List.lookup,hb,if_neg (fun e:g=f=>h (e.trans hk.symm))]
  ·rw [if_neg hk]
   by_cases h:g=k
   ·have hb:(g==k)=true:=beq_iff_eq.mpr h
    simp only [List.lookup,hb,if_neg (fun e:g=f=>hk (h.symm.trans e))]
   ·have hb:(g==k)=false:=beq_eq_false_iff_ne.mpr h
    simp only [List.lookup,hb]
    exact ih
theorem lV (f:Str)(v:V):∀ fs:List (Str×V),f∈(iM f v fs).map (·.1)∧∀ g,g∈fs.map (·.1)->g∈(iM f v fs).map (·.1)
 | []=>⟨by simp [iM],fun g h=>by simp at h⟩
 | (k,x)::r=>by
  obtain ⟨i1,i2⟩:=lV f v r
  rw [show iM f v ((k,x)::r)=(if k=f then (k,v)::r else (k,x)::iM f v r) from rfl]
  by_cases hk:k=f
  ·rw [if_pos hk]
   subst hk
   exact ⟨by simp,fun g h=>by simpa using h⟩
  ·rw [if_neg hk]
   refine ⟨?_,fun g h=>?_⟩
   ·rw [List.map_cons]
    exact List.mem_cons_of_mem _ i1
   ·rw [List.map_cons] at h ⊢
    rcases List.mem_cons.mp h with e | e
    ·exact List.mem_cons.mpr (.inl e)
    ·exact List.mem_cons_of_mem _ (i2 g e)
theorem mT (f:Str)(v:V):∀ fs:List (Str×V),(iM f v fs).length<=fs.length+1
 | []=>by simp [iM]
 | (k,x)::r=>by
  have ih:=mT f v r
  rw [show iM f v ((k,x)::r)=(if k=f then (k,v)::r else (k,x)::iM f v r) from rfl]
  by_cases hk:k=f
  ·rw [if_pos hk,List.length_cons,List.length_cons];omega
  ·rw [if_neg hk,List.length_cons,List.length_cons];omega
theorem iQ.some_of {v:V}{o:Option Value}(r:iQ (some v) o):∃ u,o=some u∧bJ v u:=by
 cases o with
 | none=>exact (show False from r).elim
 | some u=>exact ⟨u,rfl,r⟩
theorem iQ.none_of {o:Option Value}(r:iQ none o):o=none:=by
 cases o with
 | none=>rfl
 | some u=>exact (show False from r).elim
theorem Az {v:V}{u:Value}(r:bJ v u):PySem.W.handedIn u=true:=by
 cases v with
 | non=>cases (show u=Value.none from r);rfl
 | bl b=>cases (show u=Value.bool b from r);rfl
 | int i=>obtain ⟨t,e⟩:=(show ∃ t,u=Value.int i t from r);cases e;rfl
 | str x=>obtain ⟨t,e⟩:=(show ∃ t,u=Value.str x t from r);cases e;rfl
 | byt b=>obtain ⟨t,e⟩:=(show ∃ t,u=Value.bytes b t from r);cases e;rfl
 | flt b=>obtain ⟨t,e⟩:=(show ∃ t,u=Value.float b t from r);cases e;rfl
 | ref a=>cases (show u=Value.ref a from r);rfl
 | ty n=>cases (show u=Value.type n from r);rfl
section
variable {P:Program}{w:World}{H H':Hp}{h h':Heap}{a C dx:Addr}{fs fs':List (Str×V)}
theorem rX (hok:HOk P w H h)(e:H a=some (.ins C dx fs)):∃ mA,Ax h a dx C mA∧(∀ f,iQ (fs.lookup f) (mA f))∧PySem.Within mA (fs.map (·.1))∧fs.length<=1000∧H dx=some (.own a):=by
 obtain ⟨d,z,ne,ob,mA,n,r,q⟩:=(show cG P w H h a (.ins C dx fs) from hok a _ e)
 exact ⟨mA,⟨ob,n,ne⟩,r,q,z,d⟩
end
set_option genInjectivity false in
structure Cls (K:PySem.W.Frag)(C:Addr):Prop where
 pg:PySem.W.plainGet K C Str.empty=true
 hd:PySem.W.hasDictIn K C=true
 po:PySem.W.plainOver K C=true
 sa:PySem.W.findIn K (.ref C) "__setattr__" = some (some (.builtin "object.__setattr__"))
theorem Cls.get {K:PySem.W.Frag}{C:Addr}(c:Cls K C)(f:Str):PySem.W.plainGet K C f=true:=c.pg
def jJ (K:PySem.W.Frag)(C:Addr)(f:Str):Prop:=PySem.W.findIn K (.ref C) f=some none
theorem jJ.taker {K:PySem.W.Frag}{C:Addr}{f:Str}(n:jJ K C f):PySem.W.takerIn K C f=some none:=by
 unfold PySem.W.takerIn
 rw [show PySem.W.findIn K (.ref C) f=some none from n]
 rfl
section
variable {X:Cx}{pins:List (Addr×Obj)}{σ:St}{H:Hp}{s:Shared}{a C dx:Addr}{fs:List (Str×V)}{f:Str}{v:V}{A:Around}{E:Value->Shared->Prop}
theorem xT {b:Bool}{Q:Value->Shared->Prop}(I:Inv X pins σ H s)(e:H a=some (.ins C dx fs))(c:Cls X.K C)(n:jJ X.K C f)(l:fs.lookup f=some v)
  (h:∀ u s',Inv X pins σ H s'->bJ v u->Q u s'):wpAny (model X.prog X.w) A (getAttr (.ref a) f b) Q E s:=by
 obtain ⟨mA,O,r,_,_,_⟩:=rX I.hok e
 obtain ⟨u,hu,ru⟩:=iQ.some_of (v:=v) (o:=mA f) (by rw [<- l];exact r f)
 exact Ir I.kIn O (c.get f) c.hd n hu (Az ru) (h u _ (I.tok _) ru)
theorem yA {y:V}{u:Value}{Q:Unit->Shared->Prop}(I:Inv X pins σ H s)(e:H a=some (.ins C dx fs))(c:Cls X.K C)(n:jJ X.K C f)(hl:fs.length<1000)(ry:bJ y u)
  (h:∀ s',Inv X pins σ (upd H a (.ins C dx (iM f y fs))) s'->Q () s'):wpAny (model X.prog X.w) A (setAttr (.ref a) f u) Q E s:=by
 obtain ⟨mA,O,r,wi,_,ho⟩:=rX I.hok e
 have hz:(fs.map (·.1)).length<=sizeLine:=by rw [List.length_map,sizeLine_eq];omega
 refine Ix I.kIn O c.sa c.po n.taker c.hd wi hz fun h' O' sb=>h _ ?_
 have hd:∃ o,h'.get? dx=some o:=let ⟨o,_,_,e',_⟩:=O'.ns;⟨o,e'⟩
 refine I.write (x:=a) (e:=dx) (by rw [e];exact True.intro) (.inr ho) (fun b q hb z=>(sb.2 b hb).trans z) hd ?_
 refine ⟨by rw [aI O.ne];exact ho,?_,O.ne,O'.obj,_,O'.ns,fun g=>?_,fun g hg=>?_⟩
 ·have:=mT f y fs;omega
 ·show iQ ((iM f y fs).lookup g) (if g=f then some u else mA g)
  rw [gJ]
  by_cases q:g=f
  ·rw [if_pos q,if_pos q];exact ry
  ·rw [if_neg q,if_neg q];exact r g
 ·by_cases q:g=f
  ·rw [q];exact (lV f y fs).1
  ·refine (lV f y fs).2 g (wi g fun z=>hg ?_)
   show (if g=f then some u else mA g)=none
   rw [if_neg q];exact z
theorem Inv.made (I:Inv X pins σ H s):Inv X pins σ (upd (upd H s.heap.objs.size (.own (s.heap.objs.size+1))) (s.heap.objs.size+1) (.ins C s.heap.objs.size []))
  { s with heap:=(s.heap.push PySem.W.emptyDict).push (PySem.W.instObj C s.heap.objs.size) }:=by
 have e1:(s.heap.push PySem.W.emptyDict).get? s.heap.objs.size=some PySem.W.emptyDict:=Heap.get?_push_size s.heap rfl
 have e2:((s.heap.push PySem.W.emptyDict).push (PySem.W.instObj C s.heap.objs.size)).get? (s.heap.objs.size+1)=some (PySem.W.instObj C s.heap.objs.size):=by
  have:=Heap.get?_push_size (s.heap.push PySem.W.emptyDict) (o:=PySem.W.instObj C s.heap.objs.size) rfl
  rwa [Heap.size_push] at this
 have e3:(s.heap.push PySem.W.emptyDict).Ns s.heap.objs.size (fun _=>none):=⟨PySem.W.emptyDict,#[],_,e1,rfl,(fun e he=>absurd he (by simp)),fun _=>rfl⟩
 have I1:=I.laid (a:=s.heap.objs.size) (o:=.own (s.heap.objs.size+1)) (h':=s.heap.push PySem.W.emptyDict) (t':=s.toks) (fun b u q=>Heap.get?_push_of_some _ q) (Nat.le_refl _) ⟨_,e1⟩
 refine I1.laid (a:=s.heap.objs.size+1) (o:=.ins C s.heap.objs.size []) (t':=s.toks) (fun b u q=>Heap.get?_push_of_some _ q) (Nat.le_of_eq (Heap.size_push _ _)) ?_
 have ne:s.heap.objs.size≠s.heap.objs.size+1:=Nat.ne_of_lt (Nat.lt_succ_self _)
 refine ⟨by rw [aI ne,aC],Nat.zero_le _,ne,e2,fun _=>none,(Heap.Ns1.of_empty e3).at fun o q=>Heap.get?_push_of_some _ q,fun _=>True.intro,fun y hy=>absurd rfl hy⟩
theorem Ih {prog:Program}{w:World}{env:Env}{e:Expr}{f:Str}{pos:Pos}{s:Shared}{Q:Value->Shared->Prop}(hb:attributeBase e f env (eval e env)=eval e env)
  (h:wpAny (model prog w) A (eval e env) (fun o s₁=>wpAny (model prog w) A (getAttr o f true) Q E s₁) E s):wpAny (model prog w) A (eval (.Attribute e f pos) env) Q E s :=
 Attribute_any_ h (by rw [arm_eval_Attribute,hb])
end
def Qo (K:PySem.W.Frag)(ta:TE)(f:Str):TE:=fun σ H Q=>ta σ H fun x H1=>∃ a C dx fs v,x = .ref a∧H1 a=some (.ins C dx fs)∧Cls K C∧jJ K C f∧fs.lookup f=some v∧Q v H1
def Qd (K:PySem.W.Frag)(ta tv:TE)(f:Str):TS:=fun D σ H=>tv σ H fun y H1=>ta σ H1 fun x H2=>∃ a C dx fs,x = .ref a∧H2 a=some (.ins C dx fs)∧Cls K C∧jJ K C f∧fs.length<1000 ∧
 D.nx σ (upd H2 a (.ins C dx (iM f y fs)))
section
variable {X:Cx}{o e value:Expr}{f:Str}{pos pos' tpos:Pos}{ta tv:TE}
theorem yK (he:PE X e ta)(hb:attributeBase e f X.env (eval e X.env)=eval e X.env):PE X (.Attribute e f pos) (Qo X.K ta f):=by
 intro pins s σ H Q I h
 refine Ih hb (thn (he pins s σ H _ I h) fun u s1 ⟨x,H1,I1,rx,a,C,dx,fs,v,ex,ea,c,n,l,q⟩=>?_)
 subst ex
 obtain rfl:u=Value.ref a:=rx
 exact xT I1 ea c n l fun u' s2 I2 ru=>⟨v,H1,I2,ru,q⟩
theorem Ej (ha:PE X o ta)(hv:PE X value tv)(hs:swapsWith value (some (.Attribute o f pos')) pos.line X.env=pure false):PS X (.Assign [.Attribute o f pos'] value pos) (Qd X.K ta tv f):=by
 intro pins s σ H D I h
 refine plainObj_wpAny_Assign_Attribute (thn (hv pins s σ H _ I h) fun u s1 ⟨y,H1,I1,ry,q⟩=>thn (ha pins s1 σ H1 _ I1 q) fun ov s2 ⟨x,H2,I2,rx,a,C,dx,fs,ex,ea,c,n,l,q2⟩=>?_) hs
 subst ex
 obtain rfl:ov=Value.ref a:=rx
 exact yA I2 ea c n l ry fun s3 I3=>⟨σ,_,I3,q2⟩
end
section
variable {X:Cx}{pins:List (Addr×Obj)}{σ:St}{H:Hp}{s:Shared}{A:Around}{E:Value->Shared->Prop}{Q:Value->Shared->Prop}{c:Value}{b:Bool}
inductive mI (K:PySem.W.Frag)(H:Hp):V->Value->Prop where
 | non:mI K H .non (.type "NoneType")
 | bl (x:Bool):mI K H (.bl x) (.type "bool")
 | int (i:Int):mI K H (.int i) (.type "int")
 | str (x:Str):mI K H (.str x) (.type "str")
 | flt (x:UInt64):mI K H (.flt x) (.type "float")
 | lst {a:Addr} {xs:List V} (e:H a=some (.lst xs)):mI K H (.ref a) (.type "list")
 | frz {a:Addr} {o:Obj} {xs:List V} (e:H a=some (.frz o (.lst xs))):mI K H (.ref a) (.type "list")
 | tup {a:Addr} {xs:List V} (e:H a=some (.tup xs)):mI K H (.ref a) (.type "tuple")
 | dK {a:Addr} {kvs:List (Key×V)} (e:H a=some (.dK kvs)):mI K H (.ref a) (.type "dict")
 | dT {a:Addr} {kvs:List (List Key×V)} (e:H a=some (.dT kvs)):mI K H (.ref a) (.type "dict")
 | ins {a C dx:Addr} {fs:List (Str×V)} (e:H a=some (.ins C dx fs)) (cl:Cls K C) (ha:PySem.W.findIn K (.ref C) "__class__" = some (some (.builtin "object.__class__")))
  (hn:PySem.W.specialIn K (.builtin "object.__class__") "__get__" = some (some (.builtin "getset_descriptor.__get__"))) (htk:PySem.W.takesIn K (.builtin "object.__class__")=some true)
  (hm:PySem.W.mroIn K C (.type "object")=some true):mI K H (.ref a) (.ref C)
theorem Bk {x:V}{u t:Value}(I:Inv X pins σ H s)(rx:bJ x u)(ty:mI X.K H x t)(e:PySem.W.kitOne X.K t c=some b)(h:∀ tk,Q (.bool b) { s with toks:=tk }) :
  wpAny (model X.prog X.w) A (call (.builtin "isinstance") [u,c]) Q E s:=by
 cases ty with
 | non=>cases (show u=Value.none from rx);exact PySem.W.kia_one PySem.W.kitx_none I.kIn True.intro e (fun z=>nomatch z) h
 | bl y=>cases (show u=Value.bool y from rx);exact PySem.W.kia_one PySem.W.kitx_bool I.kIn True.intro e (fun z=>nomatch z) h
 | int i=>obtain ⟨t,q⟩:=(show ∃ t,u=Value.int i t from rx);cases q;exact PySem.W.kia_one PySem.W.kitx_int I.kIn True.intro e (fun z=>nomatch z) h
 | str y=>obtain ⟨t,q⟩:=(show ∃ t,u=Value.str y t from rx);cases q;exact PySem.W.kia_one PySem.W.kitx_str I.kIn True.intro e (fun z=>nomatch z) h
 | flt y=>obtain ⟨t,q⟩:=(show ∃ t,u=Value.float y t from rx);cases q;exact PySem.W.kia_one PySem.W.kitx_float I.kIn True.intro e (fun z=>nomatch z) h
 | @lst a xs ea =>
  cases (show u=Value.ref a from rx)
  obtain ⟨_,_,n,_,h1⟩:=(show cG X.prog X.w H s.heap a (.lst xs) from I.hok a _ ea)
  exact PySem.W.kia_one PySem.W.kitx_list I.kIn ⟨_,h1,rfl⟩ e (fun z=>nomatch z) h
 | @frz a ob xs ea =>
  cases (show u=Value.ref a from rx)
  obtain ⟨_,_,_,n,_,h1⟩:=(show cG X.prog X.w H s.heap a (.frz ob (.lst xs)) from I.hok a _ ea)
  exact PySem.W.kia_one PySem.W.kitx_list I.kIn ⟨_,h1,rfl⟩ e (fun z=>nomatch z) h
 | @tup a xs ea =>
  cases (show u=Value.ref a from rx)
  obtain ⟨_,_,_,p⟩:=(show cG X.prog X.w H s.heap a (.tup xs) from I.hok a _ ea)
  obtain ⟨o,h1,h2,_⟩:=p
  exact PySem.W.kia_one PySem.W.kitx_tuple I.kIn ⟨o,h1,h2⟩ e (fun z=>nomatch z) h
 | @dK a kvs ea =>
  cases (show u=Value.ref a from rx)
  obtain ⟨_,_,vs,_,p⟩:=(show cG X.prog X.w H s.heap a (.dK kvs) from I.hok a _ ea)
  obtain ⟨o,es,ep,h1,h2,_⟩:=p
  exact PySem.W.kia_one PySem.W.kitx_dict I.kIn ⟨o,h1,h2.1⟩ e (fun z=>nomatch z) h
 | @dT a kvs ea =>
  cases (show u=Value.ref a from rx)
  obtain ⟨_,_,xs,_,o,es,ep,h1,h2,_⟩:=(show cG X.prog X.w H s.heap a (.dT kvs) from I.hok a _ ea)
  exact PySem.W.kia_one PySem.W.kitx_dict I.kIn ⟨o,h1,h2.1⟩ e (fun z=>nomatch z) h
 | @ins a C dx fs ea cl ha hn htk hm =>
  cases (show u=Value.ref a from rx)
  obtain ⟨mA,O,_⟩:=rX I.hok ea
  obtain ⟨od,J,_⟩:=O.look
  exact PySem.W.kia_one (PySem.W.kitx_own (cl.get _) cl.hd ha hn htk hm) I.kIn J e (fun z=>nomatch z) h
end
end L2
namespace L2
open PySem PySem.Spec PyProof.Rows
set_option genInjectivity false in
structure fR (k:Nat)(A:Around):Prop where
 hd:A.handled=none
 dp:A.depth+3*k+5<recursionLimit
 un:A.units+16*k+200<cLine
theorem fR.mono {j k:Nat}{A:Around}(r:fR k A)(h:j<=k):fR j A:=⟨r.hd,by have:=r.dp;omega,by have:=r.un;omega⟩
theorem fR.deeper {k:Nat}{A:Around}(r:fR (k+1) A)(env:Env):fR k (A.deeper env) :=
 ⟨r.hd,by have:=r.dp;show A.depth+1+3*k+5<_;omega,by have:=r.un;show A.units+3+16*k+200<_;omega⟩
theorem xD {A:Around}{C:Addr}{us:List Value}{kw:List (Str×Value)}:(A.under (.builtin "type.__call__" ⟨.ref C::us,kw⟩)).depth=A.depth+1:=by
 first | rfl | simp [Around.under,Code.weight,Code.isCreation,Code.isGuard,Code.isCaller,Code.frames,Code.isFrame,guardIds]
theorem wR {A:Around}{C:Addr}{us:List Value}{kw:List (Str×Value)}:(A.under (.builtin "type.__call__" ⟨.ref C::us,kw⟩)).units=A.units+1:=by
 first | rfl | simp [Around.under,Code.cUnits,Code.frames,Code.isFrame]
theorem fR.make {k:Nat}{A:Around}(r:fR (k+1) A)(C:Addr)(us:List Value)(kw:List (Str×Value)):fR k (A.under (.builtin "type.__call__" ⟨.ref C::us,kw⟩)) :=
 ⟨r.hd,by have:=r.dp;rw [xD];omega,by have:=r.un;rw [wR];omega⟩
theorem fR.depth {k:Nat}{A:Around}(r:fR k A):A.depth<recursionLimit:=by have:=r.dp;omega
theorem fR.units {k:Nat}{A:Around}(r:fR k A):A.units+64<cLine:=by have:=r.un;omega
def Oi:TA:=fun _ H Q=>Q [] H
def oN (ta:TE)(tr:TA):TA:=fun σ H Q=>ta σ H fun x H1=>tr σ H1 fun xs H2=>Q (x::xs) H2
section
variable {X:Cx}{e:Expr}{es:List Expr}{te:TE}{t:TA}{pos:Pos}
theorem aD:PA X [] Oi:=fun _ _ _ _ H Q I h=>Calls.spliced_nil ⟨[],H,I,.nil,h⟩
theorem aA (ha:PE X e te)(hr:PA X es t)(hs:starEach (e::es) X.env=(false,eval e X.env)::starEach es X.env:=by rfl):PA X (e::es) (oN te t):=by
 intro pos pins s σ H Q I h
 rw [hs]
 show wpAny _ _ (spliced ((false,eval e X.env)::backTo pos (starEach es X.env))) _ _ s
 refine Calls.spliced_cons (thn (ha pins s σ H _ I h) fun u s1 ⟨x,H1,I1,r1,q1⟩=>?_)
 exact thn (hr pos pins s1 σ H1 _ I1 q1) fun us s2 ⟨xs,H2,I2,r2,q2⟩=>⟨x::xs,H2,I2,.cons r1 r2,q2⟩
def Nd (t:TA):TE:=fun σ H Q=>t σ H fun xs H1=>xs.length<=sizeLine∧∀ p,H1 p=none->Q (.ref p) (upd H1 p (.tup xs))
def Qg (t:TA):TE:=fun σ H Q=>t σ H fun xs H1=>xs.length<=sizeLine∧∀ p,H1 p=none->Q (.ref p) (upd H1 p (.lst xs))
theorem Mg {x1}(h:PA X es t):PE X (.Tuple es x1 pos) (Nd t):=by
 intro pins s σ H Q I hq
 refine wpAny_Tuple_spliced (thn (h pos pins s σ H _ I hq) fun us s1 ⟨xs,H1,I1,r,z,q⟩=>⟨by rw [<- r.length];exact z,?_⟩)
 have hf:H1 s1.heap.objs.size=none:=I1.hok.fresh (Nat.le_refl _)
 refine ⟨.ref s1.heap.objs.size,upd H1 s1.heap.objs.size (.tup xs),I1.laid (t':=s1.toks) (fun b u e=>Heap.get?_push_of_some _ e) (Nat.le_refl _) ?_,rfl,q _ hf⟩
 exact ⟨z,us,r,⟨_,Heap.get?_push_size _ rfl,rfl,_,rfl⟩⟩
theorem dX (h:PA X es t):PE X (.List es pos) (Qg t):=by
 intro pins s σ H Q I hq
 refine wpAny_List_spliced (thn (h pos pins s σ H _ I hq) fun us s1 ⟨xs,H1,I1,r,z,q⟩=>⟨by rw [<- r.length];exact z,?_⟩)
 have hf:H1 s1.heap.objs.size=none:=I1.hok.fresh (Nat.le_refl _)
 refine ⟨.ref s1.heap.objs.size,upd H1 s1.heap.objs.size (.lst xs),I1.laid (t':=s1.toks) (fun b u e=>Heap.get?_push_of_some _ e) (Nat.le_refl _) ?_,rfl,q _ hf⟩
 exact ⟨z,us,0,r,Heap.get?_push_size _ rfl⟩
end
abbrev Sp:=List V->Hp->VK->XK->Prop
abbrev CXT:=List Env->Hp->Shared->XK->Value->Shared->Prop
set_option genInjectivity false in
structure yN (P:Program)(w:World)(K:PySem.W.Frag)(mg:Str->Option Value)(base:Heap)(A:Around)(outer:List Env)(s:Shared)(H:Hp):Prop where
 frames:A.frames=some outer
 mod:Mod K mg base
 bs:∀ b o,base.get? b=some o->s.heap.get? b=some o∧H b=none
 bsz:base.objs.size<=s.heap.objs.size
 funs:s.heap.FunFrames base outer
 frf:∀ b∈frs outer,H b=none
 hok:HOk P w H s.heap
 bare:AllBare s.gens
def CE (outer:List Env)(P:Program)(w:World)(H:Hp)(s:Shared)(Q:VK)(u:Value)(s':Shared):Prop :=
 ∃ v H',s'.os=s.os∧AllBare s'.gens∧Un (frs outer) [] H H' s.heap s'.heap∧HOk P w H' s'.heap∧bJ v u∧Q v H'
def CR (CX:CXT)(outer:List Env)(P:Program)(w:World)(H:Hp)(s:Shared)(Q:VK)(E:XK)(r:Result)(s':Shared):Prop :=
 match r with
 | .ok (.ret u)=>CE outer P w H s Q u s'
 | .ok _=>False
 | .error e=>CX outer H s E e s'
set_option genInjectivity false in
structure cT (P:Program)(w:World)(K:PySem.W.Frag)(mg:Str->Option Value)(base:Heap)(CX:CXT)(k:Nat)(f:Addr)(fd:FuncData)(ps:List Str)(sp:Sp):Prop where
 len:∀ vs H Q E,sp vs H Q E->vs.length=ps.length
 run:∀ (A:Around) (outer:List Env) (s:Shared) (H:Hp) (args:Args) (us:List Value) (vs:List V) (Q:VK) (E:XK),fR k A->yN P w K mg base A outer s H->BindsTo s fd args (ps.zip us)->bX vs us->sp vs H Q E ->
  codeAny (model P w) A (.call (.ref f) args) (CR CX outer P w H s Q E) s
theorem yN.make {P:Program}{w:World}{K:PySem.W.Frag}{mg:Str->Option Value}{base:Heap}{A:Around}{outer:List Env}{s:Shared}{H:Hp}(e:yN P w K mg base A outer s H)(C:Addr)(us:List Value)(kw:List (Str×Value)) :
 yN P w K mg base (A.under (.builtin "type.__call__" ⟨.ref C::us,kw⟩)) outer s H:=⟨by first | exact e.frames | (simpa [Around.under,Code.envs,Code.isFrame,pushEnvs] using e.frames),e.mod,e.bs,e.bsz,e.funs,e.frf,e.hok,e.bare⟩
section
variable {X:Cx}{pins:List (Addr×Obj)}{σ:St}{H:Hp}{s s':Shared}
theorem Inv.env0 (I:Inv X pins σ H s):yN X.prog X.w X.K X.mg X.base X.A X.stack s H :=
 ⟨I.ok.frames,I.ok.mod,I.bs,Nat.le_trans I.ok.bsz I.sz,I.stack,I.stkFree,I.hok,I.bare⟩
theorem Inv.after {Q:VK}{u:Value}(I:Inv X pins σ H s)(h:CE X.stack X.prog X.w H s Q u s'):EP X pins σ Q u s':=by
 obtain ⟨v,H',os,bare,un,hok,r,q⟩:=h
 obtain ⟨hh,g,d,t,os'⟩:=s'
 obtain rfl:os'=s.os:=os
 exact ⟨v,H',I.call (h':=hh) (g':=g) (d':=d) (t':=t) (ch:=[]) un hok bare (fun b z=>absurd z (by simp)),r,q⟩
end
def Jq (sp:Sp)(dvs:List V)(E:XK)(t:TA):TE:=fun σ H Q=>t σ H fun vs H1=>sp (vs++dvs) H1 Q E
def Ju (C:Addr)(sp:Sp)(dvs:List V)(E:XK)(t:TA):TE:=fun σ H Q=>t σ H fun vs H1=>∀ x dx,H1 x=none->H1 dx=none->dx≠x ->
 sp (.ref x::(vs++dvs)) (upd (upd H1 dx (.own x)) x (.ins C dx [])) (fun v H2=>v = .non∧Q (.ref x) H2) E
def kU (K:PySem.W.Frag)(fd:FuncData)(ps:List Str)(ds:List Value):Prop :=
 ∀ (s:Shared) (us:List Value),K.In s.heap->(us++ds).length=ps.length->BindsTo s fd ⟨us,[]⟩ (ps.zip (us++ds))
theorem kU.all {K:PySem.W.Frag}{fd:FuncData}{ps:List Str}(h:∀ us:List Value,us.length=ps.length->bindArgs fd ⟨us,[]⟩=pure (ps.zip us)):kU K fd ps []:=fun s us _ hl=>by
 rw [List.append_nil] at hl ⊢
 exact .of_eq (h us hl)
def jH (CX:CXT)(X:Cx)(E:XK):Prop:=∀ (pins:List (Addr×Obj)) (σ:St) (H:Hp) (s:Shared) (e:Value) (s':Shared),Inv X pins σ H s->CX X.stack H s E e s'->X.xe e s'
section
variable {X:Cx}{CX:CXT}{k:Nat}{f C:Addr}{fd:FuncData}{ps:List Str}{sp:Sp}{dvs:List V}{ds:List Value}{E:XK}{x m:Str}{p pos apos:Pos}{e o:Expr}{es:List Expr}{ta:TE}{t:TA}
theorem Ll {pins:List (Addr×Obj)}{σ:St}{H:Hp}{s:Shared}{Q:VK}{us:List Value}{vs:List V}(F:cT X.prog X.w X.K X.mg X.base CX k f fd ps sp)(hr:fR k X.A)(hb:kU X.K fd ps ds)(hd:bX dvs ds)(hx:jH CX X E)
  (I:Inv X pins σ H s) (r:bX vs us) (h:sp (vs++dvs) H Q E):wpAny (model X.prog X.w) X.A (call (.ref f) us) (EP X pins σ Q) X.xe s:=by
 have r2:bX (vs++dvs) (us++ds):=r.append hd
 have hl:(us++ds).length=ps.length:=by rw [<- r2.length];exact F.len _ _ _ _ h
 refine wpAny_call (codeAny_mono (F.run X.A X.stack s H ⟨us,[]⟩ (us++ds) (vs++dvs) Q E hr I.env0 (hb s us I.kIn hl) r2 h) fun r s' hq=>?_)
 cases r with
 | error e=>exact hx pins σ H s e s' I hq
 | ok fl =>
  cases fl with
  | ret u=>exact I.after hq
  | next=>exact False.elim hq
  | brk=>exact False.elim hq
  | cont=>exact False.elim hq
theorem Iu (F:cT X.prog X.w X.K X.mg X.base CX k f fd ps sp)(hr:fR k X.A)(hg:Gl X x)(hm:X.mg x=some (.ref f))(hk:PySem.W.keepIn X.K (.ref f)=true)(hb:kU X.K fd ps ds)(hd:bX dvs ds)(hx:jH CX X E)
  (ha:PA X (e::es) t) (hdb:(x==("__debug__" : Str))=false:=by decide) (he:starEach (e::es) X.env=(false,eval e X.env)::starEach es X.env:=by rfl) (hpl:(backTo pos (starEach es X.env)).any (·.1)=false:=by rfl) :
  PE X (.Call (.Name x p) (e::es) [] pos) (Jq sp dvs E t):=by
 intro pins s σ H Q I h
 refine wpAny_Call_Name_kw (nZ I hg hm ?_ hdb)
 refine PySem.W.callWith_K (h₀:=X.base) I.ok.mod.kin hk (thn (ha pos pins s σ H _ I h) fun us s1 ⟨vs,H1,I1,r,q⟩=>⟨I1.kIn,?_⟩) he hpl
 exact Ll F hr hb hd hx I1 r q
set_option genInjectivity false in
structure Mk (K:PySem.W.Frag)(C f:Addr):Prop where
 makes:PySem.W.makesIn K C=true
 init:PySem.W.findIn K (.ref C) "__init__" = some (some (.ref f))
 fn:PySem.W.isFn K (.ref f)=true
 kp:PySem.W.keepIn K (.ref C)=true
theorem Fr {pins:List (Addr×Obj)}{σ:St}{H:Hp}{s:Shared}{Q:VK}{us:List Value}{vs:List V}(M:Mk X.K C f)(F:cT X.prog X.w X.K X.mg X.base CX k f fd ps sp)(hr:fR (k+1) X.A)(hb:kU X.K fd ps ds)(hd:bX dvs ds)
  (hx:jH CX X E) (I:Inv X pins σ H s) (r:bX vs us)
  (h:∀ x dx,H x=none->H dx=none->dx≠x->sp (.ref x::(vs++dvs)) (upd (upd H dx (.own x)) x (.ins C dx [])) (fun v H2=>v = .non∧Q (.ref x) H2) E) :
  wpAny (model X.prog X.w) X.A (call (.ref C) us) (EP X pins σ Q) X.xe s:=by
 have hq:=h (s.heap.objs.size+1) s.heap.objs.size (I.hok.fresh (Nat.le_succ _)) (I.hok.fresh (Nat.le_refl _)) (Nat.ne_of_lt (Nat.lt_succ_self _))
 have I2:=Inv.made (C:=C) I
 have r2:bX (V.ref (s.heap.objs.size+1)::(vs++dvs)) (Value.ref (s.heap.objs.size+1)::(us++ds)):=.cons rfl (r.append hd)
 have hl:(Value.ref (s.heap.objs.size+1)::us++ds).length=ps.length:=by
  have e:=r2.length
  rw [F.len _ _ _ _ hq] at e
  exact e.symm
 refine wpAny_call (Fb (f:=f) I.kIn M.makes M.init (beq_iff_eq.mp M.fn) (codeAny_mono (F.run _ X.stack _ _ ⟨Value.ref (s.heap.objs.size+1)::us,[]⟩ (Value.ref (s.heap.objs.size+1)::(us++ds)) _ _ E (hr.make C us [])
  (I2.env0.make C us []) (hb _ (Value.ref (s.heap.objs.size+1)::us) I2.kIn hl) r2 hq) fun r s' hq'=>?_))
 cases r with
 | error e=>exact hx pins σ _ _ e s' I2 hq'
 | ok fl =>
  cases fl with
  | ret u =>
   obtain ⟨v,H',I3,rv,ev,q3⟩:=I2.after hq'
   subst ev
   exact ⟨rv,⟨V.ref (s.heap.objs.size+1),H',I3,rfl,q3⟩⟩
  | next=>exact False.elim hq'
  | brk=>exact False.elim hq'
  | cont=>exact False.elim hq'
theorem Ja (M:Mk X.K C f)(F:cT X.prog X.w X.K X.mg X.base CX k f fd ps sp)(hr:fR (k+1) X.A)(hg:Gl X x)(hm:X.mg x=some (.ref C))(hb:kU X.K fd ps ds)(hd:bX dvs ds)(hx:jH CX X E)
  (ha:PA X (e::es) t) (hdb:(x==("__debug__" : Str))=false:=by decide) (he:starEach (e::es) X.env=(false,eval e X.env)::starEach es X.env:=by rfl) (hpl:(backTo pos (starEach es X.env)).any (·.1)=false:=by rfl) :
  PE X (.Call (.Name x p) (e::es) [] pos) (Ju C sp dvs E t):=by
 intro pins s σ H Q I h
 refine wpAny_Call_Name_kw (nZ I hg hm ?_ hdb)
 refine PySem.W.callWith_K (h₀:=X.base) I.ok.mod.kin M.kp (thn (ha pos pins s σ H _ I h) fun us s1 ⟨vs,H1,I1,r,q⟩=>⟨I1.kIn,?_⟩) he hpl
 exact Fr M F hr hb hd hx I1 r q
end
section
variable {X:Cx}{CX:CXT}{k:Nat}{f C:Addr}{fd:FuncData}{ps ks:List Str}{sp:Sp}{E:XK}{x m:Str}{p pos apos kpos:Pos}{e o:Expr}{es:List Expr}{kws:List Keyword}{te ta:TE}{t tk:TA}{nm:Option Str}
variable {g:List Value->List Value->List Value}{gV:List V->List V->List V}
end
set_option genInjectivity false in
structure aX (N P:List Str)(sc:Scope):Prop where
 kind:sc.kind = .function
 co:sc.isCoroutine=false
 gen:sc.isGenerator=false
 nd:N.Nodup
 pre:N.take P.length=P
 par:∀ x∈P,sc.names.lookup x=some .local∨sc.names.lookup x=some .cell
 nofree:∀ y∈sc.names,y.2≠.free
theorem rE {kindOf:Str->Option NameKind}{x:Str}:∀ {binds:List (Str×Value)} {m:Str->Option Value},(∀ v,(x,v)∉binds)->bindL kindOf binds m x=m x
 | [],_,_=>rfl
 | (n,v)::r,m,h=>by
  unfold bindL
  rw [rE fun w hw=>h w (List.mem_cons_of_mem _ hw)]
  split
  ·have:x≠n:=by rintro rfl;exact h v List.mem_cons_self
   simp [this]
  ·rfl
theorem rC {kindOf:Str->Option NameKind}{x:Str}:∀ {binds:List (Str×Value)} {m:Str->Option Value},(∀ v,(x,v)∉binds)->bindC kindOf binds m x=m x
 | [],_,_=>rfl
 | (n,v)::r,m,h=>by
  unfold bindC
  rw [rC fun w hw=>h w (List.mem_cons_of_mem _ hw)]
  split
  ·rfl
  ·have:x≠n:=by rintro rfl;exact h v List.mem_cons_self
   simp [this]
theorem qF {kindOf:Str->Option NameKind}{x:Str}{v:Value}:∀ {P:List Str} {vs:List Value} {i:Nat} {m:Str->Option Value},P.Nodup->P[i]?=some x->vs[i]?=some v->kindOf x=some .local ->
  bindL kindOf (P.zip vs) m x=some v
 | [],_,_,_,_,h,_,_=>by simp at h
 | _::_,[],_,_,_,_,h,_=>by simp at h
 | p::P,w::vs,0,m,nd,h1,h2,hk=>by
  simp at h1 h2;subst h1;subst h2
  show bindL kindOf ((p,w)::P.zip vs) m p=_
  unfold bindL
  rw [rE fun v hv=>(List.nodup_cons.mp nd).1 (List.of_mem_zip hv).1,if_pos hk]
  simp
 | p::P,w::vs,i+1,m,nd,h1,h2,hk=>by
  show bindL kindOf ((p,w)::P.zip vs) m x=_
  unfold bindL
  exact qF (i:=i) (List.nodup_cons.mp nd).2 (by simpa using h1) (by simpa using h2) hk
theorem qH {kindOf:Str->Option NameKind}{x:Str}{v:Value}:∀ {P:List Str} {vs:List Value} {i:Nat} {m:Str->Option Value},P.Nodup->P[i]?=some x->vs[i]?=some v->kindOf x≠some .local ->
  bindC kindOf (P.zip vs) m x=some v
 | [],_,_,_,_,h,_,_=>by simp at h
 | _::_,[],_,_,_,_,h,_=>by simp at h
 | p::P,w::vs,0,m,nd,h1,h2,hk=>by
  simp at h1 h2;subst h1;subst h2
  show bindC kindOf ((p,w)::P.zip vs) m p=_
  unfold bindC
  rw [rC fun v hv=>(List.nodup_cons.mp nd).1 (List.of_mem_zip hv).1,if_neg hk]
  simp
 | p::P,w::vs,i+1,m,nd,h1,h2,hk=>by
  show bindC kindOf ((p,w)::P.zip vs) m x=_
  unfold bindC
  exact qH (i:=i) (List.nodup_cons.mp nd).2 (by simpa using h1) (by simpa using h2) hk
def lA (N:List Str)(vs:List V):St:=vs.map some++List.replicate (N.length-vs.length) none
def nL (CX:CXT)(P:Program)(w:World)(K:PySem.W.Frag)(mg:Str->Option Value)(base:Heap)(N:List Str)(qual:Str)(scope:Scope)(f:Addr)(cd:Value)(A:Around)(outer:List Env)(s:Shared)(H:Hp)(E:XK):Cx where
 prog:=P
 w:=w
 K:=K
 mg:=mg
 base:=base
 A:=A.deeper (envOfC qual scope s.heap.objs.size f cd)
 N:=N
 s₀:=s
 H₀:=H
 env:=envOfC qual scope s.heap.objs.size f cd
 outer:=outer
 stack:=envOfC qual scope s.heap.objs.size f cd::outer
 ex:=[]
 calm:=true
 fn:=fun _=>true
 pn:=[]
 xe:=fun e s'=>wpAny (model P w) (A.deeper (envOfC qual scope s.heap.objs.size f cd)) (leaving (envOfC qual scope s.heap.objs.size f cd) e) (fun _ s''=>CX outer H s E e s'') (fun e' s''=>CX outer H s E e' s'') s'
theorem uF {sc:Scope}{n:Nat}{x:Str}(h:sc.names.lookup x=some .cell):∃ c,(cellsFrom n sc.names []).lookup x=some c:=by
 have q:=PySem.W.cellsFrom_some sc.names n [] (.inl h)
 exact Option.isSome_iff_exists.mp q
theorem Co {CX:CXT}{P:Program}{w:World}{K:PySem.W.Frag}{mg:Str->Option Value}{base:Heap}{N ps:List Str}{qual:Str}{scope:Scope}{f:Addr}{cd:Value}{A:Around}{outer:List Env}{s s1:Shared}{H:Hp}{E:XK}{us:List Value}{vs:List V}
  (S:aX N ps scope) (hd:A.handled=none) (e0:yN P w K mg base A outer s H) (hl:vs.length=ps.length) (r:bX vs us)
  (x:InCallC s s.heap.objs.size (bindL (envOfC qual scope s.heap.objs.size f cd).kindOf (ps.zip us) fun _=>none) (cellsFrom (s.heap.objs.size+1) scope.names []) (bindC (envOfC qual scope s.heap.objs.size f cd).kindOf (ps.zip us) fun _=>none) s1) :
  Inv (nL CX P w K mg base N qual scope f cd A outer s H E) [] (lA N vs) H s1:=by
 have hpl:ps.length<=N.length:=by have:=congrArg List.length S.pre;rw [List.length_take] at this;omega
 obtain ⟨h1,tk,rfl,hk⟩:=x.done
 have noA:∀ b:Addr,b∉(nL CX P w K mg base N qual scope f cd A outer s H E).ex:=fun b z=>absurd (show b∈([]:List Addr) from z) (by simp)
 refine ⟨⟨e0.mod,S.kind,rfl,rfl,Nat.le_refl _,fun y z c h1 h2=>?_,fun y hy=>?_,fun y c _ h=>?_,fun _=>hd,Around.frames_deeper e0.frames,.inr ⟨rfl,rfl⟩,fun b z=>absurd z (noA b),e0.bs,e0.bsz,fun b _ _=>noA b,fun b z=>absurd z (noA b),e0.funs,e0.frf⟩,
  rfl,e0.bare,Un.kept hk,⟨_,x.toInCall.ns,fun i y v h1 h2 h3=>?_⟩,fun y c h=>⟨_,x.cell y c h⟩,e0.hok.fresh (Nat.le_refl _),fun y c h=>?_,fun p hp=>absurd (show p∈([]:List (Addr×Obj)) from hp) (by simp),e0.hok.kept hk,?_⟩
 ·exact name_of_addr x.apart (PySem.mem_of_lookup h1) (PySem.mem_of_lookup h2)
 ·have hy:scope.names.lookup y=some .cell∨scope.names.lookup y=some .free:=hy
  rcases hy with hy | hy
  ·exact uF hy
  ·exact absurd rfl (S.nofree _ (PySem.mem_of_lookup hy))
 ·exact Nat.le_of_lt (x.above y c (PySem.mem_of_lookup h))
 ·have hi:i<vs.length:=by
   unfold lA at h2
   by_cases hi:i<vs.length
   ·exact hi
   ·rw [List.getElem?_append_right (by simpa using hi)] at h2
    rw [List.getElem?_replicate] at h2
    split at h2 <;> cases h2
  have ha:vs[i]?=some v:=by
   unfold lA at h2
   rw [List.getElem?_append_left (by simpa using hi),List.getElem?_map] at h2
   cases e:vs[i]? with
   | none=>rw [e] at h2;cases h2
   | some a=>rw [e] at h2;cases h2;rfl
  obtain ⟨u,hu,rv⟩:=r.get ha
  have hp:ps[i]?=some y:=by
   rw [<- S.pre,List.getElem?_take_of_lt (by omega)];exact h1
  have ndP:ps.Nodup:=by rw [<- S.pre];exact S.nd.sublist (List.take_sublist _ _)
  refine ⟨u,rv,?_⟩
  rcases S.par y (List.mem_of_getElem? hp) with k | k
  ·exact .inl ⟨k,qF ndP hp hu k⟩
  ·obtain ⟨c,e⟩:=uF (n:=s.heap.objs.size+1) k
   refine .inr ⟨.inl k,c,e,?_⟩
   have q:=x.cell y c e
   rw [qH ndP hp hu (by show scope.names.lookup y≠_;rw [k];decide)] at q
   exact q
 ·exact e0.hok.fresh (Nat.le_of_lt (x.above y c (PySem.mem_of_lookup h)))
 ·unfold lA
  show _=N.length
  rw [List.length_append,List.length_map,List.length_replicate]
  omega
theorem Jm {CX:CXT}{P:Program}{w:World}{K:PySem.W.Frag}{mg:Str->Option Value}{base:Heap}{k:Nat}{f:Addr}{name qual:Str}{params:Arguments}{body:List Stmt}{scope:Scope}{dV kV doc pm cdv ct oc:Value}{an od:Option Addr}
  {osl:Array (Option Value)} {N ps:List Str} {sp:Sp} (lk:K.lookup f=some ⟨oc,od,.func (PySem.W.fnOf name qual params body scope dV kV doc pm an cdv ct),osl⟩) (hcd:PySem.W.codeIn K cdv qual=true) (S:aX N ps scope)
  (len:∀ vs H Q E,sp vs H Q E->vs.length=ps.length)
  (hbody:∀ (A:Around) (outer:List Env) (s:Shared) (H:Hp) (vs:List V) (Q:VK) (E:XK),fR k (A.deeper (envOfC qual scope s.heap.objs.size f cdv))->sp vs H Q E ->
   ∃ t,PSs (nL CX P w K mg base N qual scope f cdv A outer s H E) body t∧t { nx:=fun _ H'=>Q .non H',rt:=Q } (lA N vs) H) :
  cT P w K mg base CX (k+1) f (PySem.W.fnOf name qual params body scope dV kV doc pm an cdv ct) ps sp:=by
 refine ⟨len,fun A outer s H args us vs Q E hr e0 hb r hsp=>?_⟩
 have hl:=len _ _ _ _ hsp
 have KX:K.In s.heap:=e0.mod.kin.keeps fun b o e=>(e0.bs b o e).1
 have lim:s.heap.NoLimit:=e0.mod.nolimit.keeps fun b o e=>(e0.bs b o e).1
 have hkind:∀ y∈ps.zip us,scope.names.lookup y.1=some .local∨(scope.names.lookup y.1=some .cell∧((cellsFrom (s.heap.objs.size+1) scope.names []).lookup y.1).isSome=true):=fun ⟨n,v⟩ hy=>by
  rcases S.par n (List.of_mem_zip hy).1 with q | q
  ·exact .inl q
  ·exact .inr ⟨q,PySem.W.cellsFrom_some _ _ _ (.inl q)⟩
 refine codeAny_call_function hr.depth (KX _ _ lk) rfl S.co S.gen rfl (PySem.W.codeRec_of KX hcd) (hb _ _ _ _ ?_)
 refine wpAny_newFunctionEnv_cells S.kind hkind fun env he s1 x=>?_
 subst he
 refine ⟨lim.keeps x.toInCall.keep,codeAny_func ?_⟩
 obtain ⟨t,ht,hq⟩:=hbody A outer s H vs Q E (hr.deeper _) hsp
 have I:Inv (nL CX P w K mg base N qual scope f cdv A outer s H E) [] (lA N vs) H s1:=Co S hr.hd e0 hl r x
 refine wpAny_mono (ht [] s1 (lA N vs) H _ I hq) (fun fl s' hs=>?_) fun e s' hs=>hs
 have fin:∀ {σ':St} {H':Hp} {v:V} {u:Value},Inv (nL CX P w K mg base N qual scope f cdv A outer s H E) [] σ' H' s'->bJ v u->Q v H'->CE outer P w H s Q u s' :=
  fun {σ' H' v u} J rv q=>⟨v,H',J.os,J.bare,J.base,J.hok,rv,q⟩
 cases fl with
 | ret u =>
  obtain ⟨v,σ',H',J,rv,q⟩:=hs
  exact fin J rv q
 | next =>
  obtain ⟨σ',H',J,q⟩:=hs
  exact fin (v:=V.non) (u:=Value.none) J rfl q
 | brk =>
  obtain ⟨_,_,_,q⟩:=hs
  exact False.elim q
 | cont =>
  obtain ⟨_,_,_,q⟩:=hs
  exact False.elim q
end L2
namespace L2
open PySem PySem.Spec PyProof.Rows
section
variable {X:Cx}{x:Str}{p pos:Pos}{e:Expr}{es:List Expr}{t:TA}{id T:String}{r:List V->Hp->VK->Prop}
def tCB (r:List V->Hp->VK->Prop)(t:TA):TE:=fun σ H Q=>t σ H fun vs H1=>r vs H1 Q
theorem aM (hc:eO X (.builtin id) r)(hg:Gl X x)(hm:X.mg x=none)(hv:bootBuiltins x=some (.builtin id))(ha:PA X (e::es) t)(hn:x ≠ "__name__" := by decide)(hdb:(x==("__debug__" : Str))=false:=by decide)
  (he:starEach (e::es) X.env=(false,eval e X.env)::starEach es X.env:=by rfl) (hpl:(backTo pos (starEach es X.env)).any (·.1)=false:=by rfl):PE X (.Call (.Name x p) (e::es) [] pos) (tCB r t):=by
 intro pins s σ H Q I h
 refine wpAny_Call_Name_kw (mC I hg hm hv ?_ hn hdb)
 exact PyProof.Rows.callWith_builtin1 (thn (ha pos pins s σ H _ I h) fun us s1 ⟨vs,H1,I1,r1,q1⟩=>hc pins s1 σ H1 vs us Q I1 r1 q1) he hpl
theorem eF (hc:eO X (.type T) r)(hg:Gl X x)(hm:X.mg x=none)(hv:bootBuiltins x=some (.type T))(ha:PA X (e::es) t)(hn:x ≠ "__name__" := by decide)(hdb:(x==("__debug__" : Str))=false:=by decide)
  (he:starEach (e::es) X.env=(false,eval e X.env)::starEach es X.env:=by rfl) (hpl:(backTo pos (starEach es X.env)).any (·.1)=false:=by rfl):PE X (.Call (.Name x p) (e::es) [] pos) (tCB r t):=by
 intro pins s σ H Q I h
 refine wpAny_Call_Name_kw (mC I hg hm hv ?_ hn hdb)
 exact PyProof.Rows.callWith_type1 (thn (ha pos pins s σ H _ I h) fun us s1 ⟨vs,H1,I1,r1,q1⟩=>hc pins s1 σ H1 vs us Q I1 r1 q1) he hpl
end
end L2
namespace HT
open PySem PyProof.Rows
section
open PySem.SeqAt
open PySem.AutoSeq1 (wpAny_loadPart')
open PySem.MeetsSeq PySem.MeetsSeq2 PySem.MeetsSeq3
end
section
variable {prog:Program}{w:World}{A:Around}{E:Value->Shared->Prop}{s:Shared}
def sIx (n d:Nat):Option Int->Nat
 | none=>d
 | some v=>if v<0 then (v+(n:Int)).toNat else min v.toNat n
theorem fA (n d:Nat):sIx n d none=d:=rfl
theorem fE (n d k:Nat):sIx n d (some (k:Int))=min k n:=by
 show (if (k:Int)<0 then ((k:Int)+(n:Int)).toNat else min (k:Int).toNat n)=min k n
 rw [if_neg (by omega),Int.toNat_natCast]
theorem tJ (n d:Nat)(hd:d<=n)(o:Option Int):sIx n d o<=n:=by
 cases o with
 | none=>exact hd
 | some v =>
  show (if v<0 then (v+(n:Int)).toNat else min v.toNat n)<=n
  by_cases hv:v<0
  ·rw [if_pos hv];omega
  ·rw [if_neg hv];exact Nat.min_le_right _ _
end
end HT
namespace L2
open PySem PySem.Spec PyProof.Rows
abbrev TO:=St->Hp->(Option Int->Hp->Prop)->Prop
def PO (X:Cx)(e:Option Expr)(t:TO):Prop :=
 ∀ (pins:List (Addr×Obj)) (s:Shared) (σ:St) (H:Hp) (Q:Option Int->Hp->Prop),Inv X pins σ H s->t σ H Q ->
  wpAny (model X.prog X.w) X.A (evalPart e X.env) (fun u s'=>∃ o H',Inv X pins σ H' s'∧IsPart u o∧Q o H') X.xe s
def Hm:TO:=fun _ H Q=>Q none H
def Pf (t:TE):TO:=fun σ H Q=>t σ H fun x H1=>∃ i,x = .int i∧Q (some i) H1
theorem xA {ns:List Int}:∀ {us:List Value},bX (ns.map V.int) us->IntsAre us ns:=by
 induction ns with
 | nil=>intro us r;rw [List.map_nil] at r;cases r;exact .nil
 | cons n ns ih =>
  intro us r
  rw [List.map_cons] at r
  cases r with
  | cons r1 r2 =>
   obtain ⟨t,e⟩:=r1
   subst e
   exact .cons n t (ih r2)
section
variable {X:Cx}{e:Expr}{te:TE}{lo hi:Option Expr}{tl th:TO}{pos p2:Pos}
theorem bT:PO X none Hm:=by
 intro pins s σ H Q I h
 rw [evalPart_none]
 exact wpAny_pure ⟨none,H,I,.none,h⟩
theorem bQ (h:PE X e te):PO X (some e) (Pf te):=by
 intro pins s σ H Q I hw
 rw [evalPart_some]
 refine thn (h pins s σ H _ I hw) fun u s1 ⟨x,H1,I1,r1,q1⟩=>?_
 obtain ⟨i,rfl,q⟩:=q1
 obtain ⟨t,rfl⟩:=r1
 exact ⟨some i,H1,I1,.int i t,q⟩
def SlR (X:Cx)(r:V->Option Int->Option Int->Hp->VK->Prop):Prop :=
 ∀ (pins:List (Addr×Obj)) (s:Shared) (σ:St) (H:Hp) (x:V) (v vl vu:Value) (lo hi:Option Int) (sl:Addr) (Q:VK),Inv X pins σ H s->bJ x v->s.heap.IsSliceOf sl vl vu .none->IsPart vl lo->IsPart vu hi->r x lo hi H Q ->
  ∃ T id,typeLookup (.type T) "__getitem__" = pure (some (.builtin id))∧s.TypeIs v T∧wpAny (model X.prog X.w) X.A (getItem v (.ref sl)) (EP X pins σ Q) X.xe s
def tSl (r:V->Option Int->Option Int->Hp->VK->Prop)(te:TE)(tl th:TO):TE:=fun σ H Q=>te σ H fun x H1=>tl σ H1 fun l H2=>th σ H2 fun u H3=>r x l u H3 Q
theorem bE {r:V->Option Int->Option Int->Hp->VK->Prop}(hr:SlR X r)(he:PE X e te)(hl:PO X lo tl)(hu:PO X hi th):PE X (.Subscript e (.Slice lo hi none p2) pos) (tSl r te tl th):=by
 intro pins s σ H Q I h
 refine Subscript_ (thn (he pins s σ H _ I h) fun v s1 ⟨x,H1,I1,r1,q1⟩=>?_)
 refine wpAny_Slice (thn (hl pins s1 σ H1 _ I1 q1) fun vl s2 ⟨l,H2,I2,pl,q2⟩=>thn (hu pins s2 σ H2 _ I2 q2) fun vu s3 ⟨u,H3,I3,pu,q3⟩=>?_)
 rw [evalPart_none]
 refine wpAny_pure ?_
 have I4:Inv X pins σ H3 { s3 with heap:=s3.heap.push { cls:=.type "slice",data:=.fields #[vl,vu,.none] } }:=I3.kept (t':=s3.toks) fun b ob q=>Heap.get?_push_of_some _ q
 obtain ⟨T,id,hT,ht,hg⟩:=hr pins { s3 with heap:=s3.heap.push { cls:=.type "slice",data:=.fields #[vl,vu,.none] } } σ H3 x v vl vu l u s3.heap.objs.size Q I4 r1 (Heap.IsSliceOf.new ..) pl pu q3
 show wpAny (model X.prog X.w) X.A (subscriptTail e (.Slice lo hi none p2) v (.ref s3.heap.objs.size)) (EP X pins σ Q) X.xe { s3 with heap:=s3.heap.push { cls:=.type "slice",data:=.fields #[vl,vu,.none] } }
 exact tail_any (ops:=[.ref s3.heap.objs.size,v]) ht hT hg (by with_unfolding_all rfl)
def eC (xs:List V)(lo hi:Option Int):List V:=(xs.drop (HT.sIx xs.length 0 lo)).take (HT.sIx xs.length xs.length hi-HT.sIx xs.length 0 lo)
theorem wA (xs:List V)(lo hi:Option Int):(eC xs lo hi).length<=xs.length:=by
 unfold eC
 rw [List.length_take,List.length_drop]
 omega
end
end L2
namespace L2
open PySem PySem.Spec PyProof.Rows
def ixN (n:Nat)(i:Int):Option Nat:=if 0<=i then (if i<n then some i.toNat else none) else if -(n:Int)<=i then some (i+n).toNat else none
def atI {α:Type}(xs:List α)(i:Int):Option α:=(ixN xs.length i).bind fun j=>xs[j]?
theorem Ib {n:Nat}{i:Int}{j:Nat}(h:ixN n i=some j):seqIndex? i n=some j∧j<n∧-(n:Int)<=i∧i<n:=by
 unfold ixN at h
 by_cases h0:0<=i
 ·rw [if_pos h0] at h
  by_cases h1:i<n
  ·rw [if_pos h1] at h
   have e:i.toNat=j:=Option.some.inj h
   exact ⟨by rw [seqIndex_of h0 h1,e],by omega,by omega,h1⟩
  ·rw [if_neg h1] at h;cases h
 ·rw [if_neg h0] at h
  by_cases h1 : -(n:Int)<=i
  ·rw [if_pos h1] at h
   have e:(i+n).toNat=j:=Option.some.inj h
   exact ⟨by rw [seqIndex_neg (by omega) h1,e],by omega,h1,by omega⟩
  ·rw [if_neg h1] at h;cases h
theorem uB {α:Type}{xs:List α}{i:Int}{v:α}(h:atI xs i=some v):∃ j,seqIndex? i xs.length=some j∧xs[j]?=some v∧j<xs.length∧-(xs.length:Int)<=i∧i<xs.length:=by
 unfold atI at h
 cases e:ixN xs.length i with
 | none=>rw [e] at h;cases h
 | some j =>
  rw [e] at h
  obtain ⟨h1,h2,h3,h4⟩:=Ib e
  exact ⟨j,h1,h,h2,h3,h4⟩
theorem dC {α:Type}{xs:List α}{j:Nat}{v:α}(h:xs[j]?=some v):atI xs (j:Int)=some v:=by
 have hj:j<xs.length:=(List.getElem?_eq_some_iff.mp h).1
 have e:ixN xs.length (j:Int)=some j:=by
  unfold ixN
  rw [if_pos (by omega),if_pos (by omega)];simp
 unfold atI;rw [e];exact h
def Iy (b:Expr):Prop:=∀ o i,subscripted b false o i=operate [o,i] (getItem o i)
def IxR (X:Cx)(r:R2):Prop :=
 ∀ (value slice:Expr) (pins:List (Addr×Obj)) (s:Shared) (σ:St) (H:Hp) (x y:V) (v u:Value) (Q:VK),Inv X pins σ H s->bJ x v->bJ y u->r x y H Q ->
  subscripted slice false v u=operate [v,u] (getItem v u)->wpAny (model X.prog X.w) X.A (subscriptTail value slice v u) (EP X pins σ Q) X.xe s
def MtR (X:Cx)(id:String)(r:V->List V->Hp->VK->Prop):Prop :=
 ∀ (pins:List (Addr×Obj)) (s:Shared) (σ:St) (H:Hp) (x:V) (xs:List V) (v:Value) (us:List Value) (Q:VK),Inv X pins σ H s->bJ x v->bX xs us->r x xs H Q ->
  wpAny (model X.prog X.w) X.A (call (.builtin id) (v::us)) (EP X pins σ Q) X.xe s
section
variable {X:Cx}{a b:Expr}{ta tb:TE}{pos:Pos}
theorem eS {r:R2}(hr:IxR X r)(ha:PE X a ta)(hb:PE X b tb)(hs:Iy b):PE X (.Subscript a b pos) (tOp r ta tb):=by
 intro pins s σ H Q I h
 exact Subscript_ (Mn ha hb I h fun v u s2 x y H2 I2 rx ry q=>hr a b pins s2 σ H2 x y v u Q I2 rx ry q (hs _ _))
def Pg (K:PySem.W.Frag):R2:=fun x y H Q=>∃ p xs i v,x = .ref p∧y = .int i∧SqL K H p xs∧atI xs i=some v∧Q v H
def Pp (K:PySem.W.Frag):R2:=fun x y H Q=>∃ p xs i v,x = .ref p∧y = .int i∧SqT K H p xs∧atI xs i=some v∧Q v H
def Pu:R2:=fun x y H Q=>∃ z i c,x = .str z∧y = .int i∧z.length<=sizeLine∧atI z.cps.toList i=some c∧Q (.str ⟨#[c]⟩) H
theorem cX:IxR X (Pg X.K):=by
 intro value slice pins s σ H x y v u Q I rx ry h hs
 obtain ⟨p,xs,i,z,rfl,rfl,hq,he,q⟩:=h
 cases rx
 obtain ⟨t,rfl⟩:=ry
 obtain ⟨its,r,pl,hz⟩:=I.list hq
 obtain ⟨j,h1,h2,h3,h4,h5⟩:=uB he
 obtain ⟨w,ew,rw'⟩:=r.get h2
 have hl:=r.length
 have hn:=oO
 have fin:EP X pins σ Q w s:=⟨z,H,I,rw',q⟩
 by_cases h0:0<=i
 ·have hj:i.toNat=j:=by
   rw [seqIndex_of h0 h5] at h1
   exact Option.some.inj h1
  exact item_listR pl.isList h0 (by omega) (by rw [hj];simpa using ew) fin hs
 ·have hj:(i+(its.toArray.size:Int)).toNat=j:=by
   rw [seqIndex_neg (by omega) h4] at h1
   rw [List.size_toArray,<- hl]
   exact Option.some.inj h1
  exact subscriptTail_builtinR (x:=w) pl.isList.typeIs slot_list_getitem.lookup
   (wpAny_getItem_list_neg (Q:=fun r s'=>r=w∧EP X pins σ Q r s') pl.isList (by omega) (by rw [List.size_toArray] <;> omega) (by omega) (by rw [hj];simpa using ew) ⟨rfl,fin⟩) hs
theorem Lp:IxR X (Pp X.K):=by
 intro value slice pins s σ H x y v u Q I rx ry h hs
 obtain ⟨p,xs,i,z,rfl,rfl,hq,he,q⟩:=h
 cases rx
 obtain ⟨t,rfl⟩:=ry
 obtain ⟨its,r,pl,hz⟩:=I.tuple hq
 obtain ⟨j,h1,h2,h3,h4,h5⟩:=uB he
 obtain ⟨w,ew,rw'⟩:=r.get h2
 have hl:=r.length
 have hn:=oO
 have fin:EP X pins σ Q w s:=⟨z,H,I,rw',q⟩
 exact subscriptTail_builtinR (x:=w) pl.typeIs slot_tuple_getitem.lookup
  (getItem_tuple (j:=j) (Q:=fun r s'=>r=w∧EP X pins σ Q r s') pl (by omega) (by omega) (by rw [List.size_toArray,<- hl];exact h1) (by simpa using ew) ⟨rfl,fin⟩) hs
theorem Kk:IxR X Pu:=by
 intro value slice pins s σ H x y v u Q I rx ry h hs
 obtain ⟨z,i,c,rfl,rfl,hz,he,q⟩:=h
 obtain ⟨t,rfl⟩:=rx
 obtain ⟨t',rfl⟩:=ry
 obtain ⟨j,h1,h2,h3,h4,h5⟩:=uB he
 have hl:z.cps.toList.length=z.length:=by simp [Str.length]
 rw [hl] at h1 h4 h5
 have hn:=oO
 exact tail_any (typeIs_str s z t) slot_str_getitem.lookup (getItem_str (c:=c) (by
  have e1:decide (i < -(2 ^ 63:Int))=false:=decide_eq_false (by omega)
  have e2:decide (i≥2 ^ 63)=false:=decide_eq_false (by omega)
  rw [e1,e2,Bool.or_false]) (by rw [h1];simpa using h2) ⟨.str ⟨#[c]⟩,H,I.tok _,⟨_,rfl⟩,q⟩) hs
theorem tR (lo hi:Option Int)(n:Nat):(sliceBounds lo hi none n).1=((HT.sIx n 0 lo:Nat):Int)∧(sliceBounds lo hi none n).2.1=((HT.sIx n n hi:Nat):Int)∧(sliceBounds lo hi none n).2.2=1:=by
 refine ⟨?_,?_,rfl⟩
 ·cases lo with
  | none=>simp [sliceBounds,HT.sIx]
  | some i =>
   simp only [sliceBounds,HT.sIx,Option.getD_none,show (1:Int)>0 by decide,if_true]
   by_cases h:i<0
   ·simp only [h,if_true] <;> omega
   ·simp only [h,if_false] <;> omega
 ·cases hi with
  | none=>simp [sliceBounds,HT.sIx]
  | some i =>
   simp only [sliceBounds,HT.sIx,Option.getD_none,show (1:Int)>0 by decide,if_true]
   by_cases h:i<0
   ·simp only [h,if_true] <;> omega
   ·simp only [h,if_false] <;> omega
theorem pT (its:List Value)(lo hi:Option Int):slicePick its.toArray lo hi none=((its.drop (HT.sIx its.length 0 lo)).take (HT.sIx its.length its.length hi-HT.sIx its.length 0 lo)).toArray:=by
 obtain ⟨h1,h2,h3⟩:=tR lo hi its.toArray.size
 unfold slicePick
 rw [h1,h2,h3]
 simp only [sliceRange_one,pick_run,List.size_toArray] <;> rfl
def Pz (K:PySem.W.Frag):V->Option Int->Option Int->Hp->VK->Prop:=fun x lo hi H Q=>∃ a xs,x = .ref a∧SqL K H a xs∧∀ p,H p=none->Q (.ref p) (upd H p (.lst (eC xs lo hi)))
theorem eP:SlR X (Pz X.K):=by
 intro pins s σ H x v vl vu lo hi sl Q I rx hs pl pu h
 obtain ⟨a,xs,rfl,hx,q⟩:=h
 cases rx
 obtain ⟨its,r,ht,hz⟩:=I.list hx
 have hlen:=r.length
 refine ⟨"list",_,slot_list_getitem.lookup,ht.isList.typeIs,?_⟩
 refine wpAny_getItem_list_slice ht.isList hs pl pu .none (by simp) ?_ (by rw [List.size_toArray] <;> omega)
 rw [pT,<- hlen]
 refine ⟨.ref s.heap.objs.size,_,I.laid (t':=s.toks) (o:=.lst (eC xs lo hi)) (fun b ob q=>Heap.get?_push_of_some _ q) (Nat.le_refl _) ?_,rfl,q _ (I.hok.fresh (Nat.le_refl _))⟩
 exact ⟨Nat.le_trans (wA xs lo hi) hz,_,0,(r.drop (HT.sIx xs.length 0 lo)).take (HT.sIx xs.length xs.length hi-HT.sIx xs.length 0 lo),Heap.get?_push_size _ rfl⟩
def gM:V->Bool
 | .non=>true
 | .bl _=>true
 | .int _=>true
 | .str _=>true
 | _=>false
def eqV:V->V->Bool
 | .non,.non=>true
 | .bl a,.bl b=>a==b
 | .bl a,.int b=>(if a then 1 else 0)==b
 | .int a,.bl b=>a==(if b then 1 else 0)
 | .int a,.int b=>a==b
 | .str a,.str b=>a==b
 | _,_=>false
theorem Gp {A:Around}{s:Shared}{y x:V}{u v:Value}(ry:bJ y u)(rx:bJ x v)(fy:gM y=true)(fx:gM x=true):SeqAt.EqAt A s u v (eqV y x):=by
 cases y with
 | non =>
  cases ry
  cases x with
  | non=>cases rx;exact SeqAt.EqAt.same _
  | bl b=>cases rx;exact SeqAt.EqAt.none_bool b
  | int b=>obtain ⟨t,rfl⟩:=rx;exact SeqAt.EqAt.none_int b t
  | str b=>obtain ⟨t,rfl⟩:=rx;exact SeqAt.EqAt.none_str b t
  | _=>exact absurd (show false=true from fx) Bool.false_ne_true
 | bl a =>
  cases ry
  cases x with
  | non=>cases rx;exact SeqAt.EqAt.bool_none a
  | bl b=>cases rx;exact SeqAt.EqAt.bool_bool a b
  | int b=>obtain ⟨t,rfl⟩:=rx;exact SeqAt.EqAt.bool_int a b t
  | str b=>obtain ⟨t,rfl⟩:=rx;exact SeqAt.EqAt.bool_str a b t
  | _=>exact absurd (show false=true from fx) Bool.false_ne_true
 | int a =>
  obtain ⟨t',rfl⟩:=ry
  cases x with
  | non=>cases rx;exact SeqAt.EqAt.int_none a t'
  | bl b=>cases rx;exact SeqAt.EqAt.int_bool a t' b
  | int b=>obtain ⟨t,rfl⟩:=rx;exact SeqAt.EqAt.int_int a t' b t
  | str b=>obtain ⟨t,rfl⟩:=rx;exact SeqAt.EqAt.int_str a t' b t
  | _=>exact absurd (show false=true from fx) Bool.false_ne_true
 | str a =>
  obtain ⟨t',rfl⟩:=ry
  cases x with
  | non=>cases rx;exact SeqAt.EqAt.str_none a t'
  | bl b=>cases rx;exact SeqAt.EqAt.str_bool a t' b
  | int b=>obtain ⟨t,rfl⟩:=rx;exact SeqAt.EqAt.str_int a t' b t
  | str b=>obtain ⟨t,rfl⟩:=rx;exact SeqAt.EqAt.str_str a t' b t
  | _=>exact absurd (show false=true from fx) Bool.false_ne_true
 | _=>exact absurd (show false=true from fy) Bool.false_ne_true
def eqU (x:V)(u:Value):Bool:=match u with
 | .none=>eqV .non x
 | .bool b=>eqV (.bl b) x
 | .int i _=>eqV (.int i) x
 | .str z _=>eqV (.str z) x
 | _=>false
theorem xX {x y:V}{u:Value}(r:bJ y u)(f:gM y=true):eqU x u=eqV y x:=by
 cases y with
 | non=>cases r;rfl
 | bl b=>cases r;rfl
 | int i=>obtain ⟨t,rfl⟩:=r;rfl
 | str z=>obtain ⟨t,rfl⟩:=r;rfl
 | _=>exact absurd (show false=true from f) Bool.false_ne_true
theorem sI {x:V}:∀ {xs:List V} {us:List Value},bX xs us->xs.all gM=true->us.any (eqU x)=xs.any fun y=>eqV y x
 | _,_,.nil,_=>rfl
 | y::xs,u::us,.cons r t,f=>by
  rw [List.all_cons,Bool.and_eq_true] at f
  rw [List.any_cons,List.any_cons,xX r f.1,sI t f.2]
theorem lQ {A:Around}{s:Shared}{x:V}{v:Value}(rx:bJ x v)(fx:gM x=true):∀ {xs:List V} {us:List Value},bX xs us->xs.all gM=true->∀ u∈us,SeqAt.EqAt A s u v (eqU x u)
 | _,_,.nil,_=>fun u hu=>by cases hu
 | y::xs,u::us,.cons r t,f=>fun u' hu=>by
  rw [List.all_cons,Bool.and_eq_true] at f
  rcases List.mem_cons.mp hu with rfl | hu
  ·rw [xX r f.1];exact Gp r rx f.1 fx
  ·exact lQ rx fx t f.2 u' hu
def inV (x:V)(xs:List V):Bool:=xs.any fun y=>eqV y x
def rIn (K:PySem.W.Frag)(neg:Bool):R2:=fun x y H Q=>∃ p xs,y = .ref p∧(SqL K H p xs∨SqT K H p xs)∧gM x=true∧xs.all gM=true∧Q (.bl (if neg then !inV x xs else inV x xs)) H
theorem iD:OpR X (compareOp .NotIn) (rIn X.K true):=by
 intro pins s σ H x y v u Q I rx ry h
 obtain ⟨p,xs,rfl,hq,fx,fs,q⟩:=h
 cases ry
 rcases hq with hq | hq
 ·obtain ⟨its,r,pl,hz⟩:=I.list hq
  refine SeqAt.notIn_listAt (eqU x) pl.isList (fun w hw=>lQ rx fx r fs w (by simpa using hw)) ⟨.bl _,H,I,rfl,?_⟩
  rw [show its.toArray.any (eqU x)=its.any (eqU x) by simp,sI r fs]
  exact q
 ·obtain ⟨its,r,pl,hz⟩:=I.tuple hq
  refine SeqAt.notIn_tupleAt (eqU x) pl (fun w hw=>lQ rx fx r fs w (by simpa using hw)) ⟨.bl _,H,I,rfl,?_⟩
  rw [show its.toArray.any (eqU x)=its.any (eqU x) by simp,sI r fs]
  exact q
theorem aP:eO X (.builtin "len") (fun xs H Q=>∃ p ys,xs=[.ref p]∧(SqL X.K H p ys∨SqT X.K H p ys)∧Q (.int ys.length) H):=by
 intro pins s σ H xs us Q I r h
 obtain ⟨p,ys,rfl,hq,q⟩:=h
 obtain ⟨u,rfl,rx⟩:=fV r
 cases rx
 have hn:=oO
 rcases hq with hq | hq
 ·obtain ⟨its,r',pl,hz⟩:=I.list hq
  have hlen:=r'.length
  exact Calls.call_len_list pl.isList (by simp only [List.size_toArray] <;> omega) ⟨.int ys.length,H,I.tok _,⟨s.toks+1,by rw [List.size_toArray,hlen]⟩,q⟩
 ·obtain ⟨its,r',pl,hz⟩:=I.tuple hq
  have hlen:=r'.length
  exact len_tuple pl (by simp only [List.size_toArray] <;> omega) ⟨.int ys.length,H,I.tok _,⟨s.toks+1,by rw [List.size_toArray,hlen]⟩,q⟩
theorem sU:eO X (.builtin "len") (fun xs H Q=>∃ z,xs=[.str z]∧z.length<=sizeLine∧Q (.int z.length) H):=by
 intro pins s σ H xs us Q I r h
 obtain ⟨z,rfl,hz,q⟩:=h
 obtain ⟨u,rfl,t,rfl⟩:=fV r
 have hn:=oO
 exact len_str (by omega) ⟨.int z.length,H,I.tok _,⟨_,rfl⟩,q⟩
theorem lM:eO X (.type "list") (fun xs H Q=>∃ p ys,xs=[.ref p]∧(SqL X.K H p ys∨SqT X.K H p ys)∧∀ l,H l=none->Q (.ref l) (upd H l (.lst ys))):=by
 intro pins s σ H xs us Q I r h
 obtain ⟨p,ys,rfl,hq,q⟩:=h
 obtain ⟨u,rfl,rx⟩:=fV r
 cases rx
 have fin:∀ (its:List Value),bX ys its->ys.length<=sizeLine->∀ (h':Heap) (c':Nat),(∀ b o',s.heap.get? b=some o'->h'.get? b=some o') ->
   h'.get? s.heap.objs.size=some { cls:=.type "list",dict:=none,data:=.seq its.toArray c',slots:=#[] }->EP X pins σ Q (.ref s.heap.objs.size) { s with heap:=h' }:=fun its r' hz h' c' kp e =>
  ⟨.ref s.heap.objs.size,_,I.laid (t':=s.toks) kp (Nat.le_refl _) (show cG X.prog X.w _ h' _ (.lst ys) from ⟨hz,its,c',r',e⟩),rfl,q _ (I.hok.fresh (Nat.le_refl _))⟩
 rcases hq with hq | hq
 ·obtain ⟨its,r',pl,hz⟩:=I.list hq
  have hlen:=r'.length
  obtain ⟨o,ho,hc,n,hd⟩:=pl.isList
  exact call_list_seq p (.inl rfl) ho hc hd (fun h' c' kp e=>fin its r' hz h' c' kp e) (by simp only [List.size_toArray] <;> omega)
 ·obtain ⟨its,r',pl,hz⟩:=I.tuple hq
  have hlen:=r'.length
  obtain ⟨o,ho,hc,n,hd⟩:=pl
  exact call_list_seq p (.inr rfl) ho hc hd (fun h' c' kp e=>fin its r' hz h' c' kp e) (by simp only [List.size_toArray] <;> omega)
theorem pU:eO X (.type "tuple") (fun xs H Q=>∃ p ys,xs=[.ref p]∧((SqL X.K H p ys∧∀ l,H l=none->Q (.ref l) (upd H l (.tup ys)))∨(SqT X.K H p ys∧Q (.ref p) H))):=by
 intro pins s σ H xs us Q I r h
 obtain ⟨p,ys,rfl,h⟩:=h
 obtain ⟨u,rfl,rx⟩:=fV r
 cases rx
 rcases h with ⟨hq,q⟩ | ⟨hq,q⟩
 ·obtain ⟨its,r',pl,hz⟩:=I.list hq
  have hlen:=r'.length
  refine call_tuple_list pl.isList (fun h' kp=>?_) (by simp only [List.size_toArray] <;> omega)
  have I1:Inv X pins σ H { s with heap:=h' }:=I.kept (t':=s.toks) kp
  have I2:Inv X pins σ (upd H h'.objs.size (.tup ys)) { s with heap:=h'.push { cls:=.type "tuple",data:=.seq its.toArray } } :=
   I1.laid (t':=s.toks) (fun b o e=>Heap.get?_push_of_some _ e) (Nat.le_refl _) (show cG X.prog X.w _ _ _ (.tup ys) from ⟨hz,its,r',IsTup.new _ _⟩)
  exact ⟨.ref h'.objs.size,_,I2,rfl,q _ (I1.hok.fresh (Nat.le_refl _))⟩
 ·obtain ⟨its,r',pl,hz⟩:=I.tuple hq
  exact call_tuple_same pl ⟨.ref p,H,I,rfl,q⟩
def tyV (K:PySem.W.Frag)(T:String)(x:V)(H:Hp):Prop:=match x with
 | .str _=>T = "str"
 | .int _=>T = "int"
 | .ref p=>(T = "list" ∧ ∃ xs,SqL K H p xs)∨(T = "tuple" ∧ ∃ o,K.lookup p=some o∧o.cls = .type "tuple" ∧ o.dict=none) ∨
  (T = "dict" ∧ ((∃ kvs,H p=some (.dK kvs))∨∃ kvs,H p=some (.dT kvs)))∨(T = "set" ∧ ∃ S n,H p=some (.set S n))
 | _=>False
theorem Mh {pins:List (Addr×Obj)}{σ:St}{H:Hp}{s:Shared}{T:String}{x:V}{v:Value}(I:Inv X pins σ H s)(r:bJ x v)(ty:tyV X.K T x H) :
  s.TypeIs v T∧∀ a,v = .ref a->∃ ob,s.heap.get? a=some ob∧ob.dict=none:=by
 cases x with
 | str z =>
  obtain ⟨t,rfl⟩:=r
  cases (show T = "str" from ty)
  exact ⟨typeIs_str s z t,fun _ e=>nomatch e⟩
 | int i =>
  obtain ⟨t,rfl⟩:=r
  cases (show T = "int" from ty)
  exact ⟨typeIs_int s i t,fun _ e=>nomatch e⟩
 | ref p =>
  cases r
  rcases ty with ⟨rfl,xs,hq⟩ | ⟨rfl,o,hk,hc,hd⟩ | ⟨rfl,hk⟩ | ⟨rfl,S,n,hk⟩
  ·obtain ⟨its,_,pl,_⟩:=I.list hq
   refine ⟨pl.isList.typeIs,fun a e=>?_⟩
   cases e
   obtain ⟨o,n,e,c,hd,_⟩:=pl
   exact ⟨o,e,hd⟩
  ·refine ⟨⟨o,I.kIn p o hk,hc⟩,fun a e=>?_⟩
   cases e
   exact ⟨o,I.kIn _ o hk,hd⟩
  ·have z:∃ o,s.heap.get? p=some o∧o.ExactDict:=by
    rcases hk with ⟨kvs,hk⟩ | ⟨kvs,hk⟩
    ·obtain ⟨_,_,_,_,o,_,_,e,ex,_⟩:=I.hok p _ hk
     exact ⟨o,e,ex⟩
    ·obtain ⟨_,_,_,_,o,_,_,e,ex,_⟩:=I.hok p _ hk
     exact ⟨o,e,ex⟩
   obtain ⟨o,e,ex⟩:=z
   refine ⟨⟨o,e,ex.1⟩,fun a e2=>?_⟩
   cases e2
   exact ⟨o,e,ex.2.1⟩
  ·obtain ⟨o,_,_,_,e,ex,_⟩:=I.hok p _ hk
   refine ⟨⟨o,e,ex.1⟩,fun a e2=>?_⟩
   cases e2
   exact ⟨o,e,ex.2.1⟩
 | _=>exact False.elim ty
def tBM (K:PySem.W.Frag)(T:String)(r:V->List V->Hp->VK->Prop)(to:TE)(t:TA):TE:=fun σ H Q=>to σ H fun x H1=>tyV K T x H1∧t σ H1 fun xs H2=>r x xs H2 Q
variable {o e:Expr}{es:List Expr}{to:TE}{t:TA}{name:Str}{apos cpos:Pos}{T id:String}{r:V->List V->Hp->VK->Prop}
theorem uG (pa:PlainAttrs T)(slot:Slot T name id)(hty:typeOf (.builtin id)=pure (.type "method_descriptor"))(hm:MtR X id r)(ho:PE X o to)(ha:PA X (e::es) t)
  (hbase:attributeBase o name X.env (eval o X.env)=eval o X.env:=by rfl)
  (hfew:((backTo cpos (starEach (e::es) X.env)).all (fun x=>!x.1)&&(backToKw cpos (keywordEach [] X.env)).all (fun x=>x.1.isSome)
   && decide ((e::es).length+([]:List Keyword).length+(if ([]:List Keyword).isEmpty then 0 else 1)<30))=true:=by rfl)
  (hline:(apos.endLine==cpos.line)=true:=by rfl) (hs:starEach (e::es) X.env=(false,eval e X.env)::starEach es X.env:=by rfl) (hplain:(backTo cpos (starEach es X.env)).any (·.1)=false:=by rfl) :
  PE X (.Call (.Attribute o name apos) (e::es) [] cpos) (tBM X.K T r to t):=by
 intro pins s σ H Q I h
 refine wpAny_Call_method_late hbase hfew hline rfl (thn (ho pins s σ H _ I h) fun v s1 ⟨x,H1,I1,r1,ty,q1⟩=>?_)
 obtain ⟨h1,h2⟩:=Mh I1 r1 ty
 refine ⟨T,id,pa,slot,hty,h1,h2,?_⟩
 have hA:=ha cpos pins s1 σ H1 _ I1 q1
 rw [hs] at hA ⊢
 refine Calls.callWith_builtin (by show (false||(backTo cpos (starEach es X.env)).any (·.1))=false;rw [hplain] <;> rfl) (Calls.evalArgs_plain ?_)
 exact thn hA fun us s2 ⟨vs,H2,I2,r2,q2⟩=>hm pins s2 σ H2 x vs v us Q I2 r1 r2 q2
end
end L2
namespace L2
open PySem PySem.Spec PyProof.Rows
def MtM (X:Cx)(id:String)(r:V->List V->Hp->VK->Prop):Prop :=
 ∀ (pins:List (Addr×Obj)) (s:Shared) (σ:St) (H:Hp) (x:V) (xs:List V) (v:Value) (us:List Value) (Q:VK),Inv X pins σ H s->bJ x v->bX xs us->r x xs H Q ->
  wpAny (model X.prog X.w) X.A (call (.builtin id) (v::us)) (EP X pins σ Q) X.xe s
theorem bX.one:∀ {x:V} {us:List Value},bX [x] us->∃ u,us=[u]∧bJ x u
 | _,_,.cons r .nil=>⟨_,rfl,r⟩
section
variable {X:Cx}{pins:List (Addr×Obj)}{σ:St}{H:Hp}{s:Shared}{l b:Addr}{xs ys zs:List V}
theorem Inv.lset {its its':List Value}{n:Nat}{f:Array Value->Array Value}{t':Nat}(I:Inv X pins σ H s)(hH:H l=some (.lst xs))
  (e:s.heap.get? l=some { cls:=.type "list",data:=.seq its.toArray n }) (hf:f its.toArray=its'.toArray) (hv:bX ys its') (hz:ys.length<=sizeLine) :
  Inv X pins σ (upd H l (.lst ys)) { s with heap:=s.heap.update l (Obj.mapSeq f),toks:=t' }:=by
 have q:=PySem.IsL.update e f
 rw [hf] at q
 refine I.write (x:=l) (e:=l) (by rw [hH];exact trivial) (.inl rfl) (fun b' u hb hu=>(Heap.get?_update_other s.heap (Obj.mapSeq f) (Ne.symm hb)).trans hu) ⟨_,q⟩ ?_
 exact ⟨hz,its',_,hv,q⟩
theorem Inv.lnew {its:List Value}{t':Nat}(I:Inv X pins σ H s)(hv:bX ys its)(hz:ys.length<=sizeLine) :
  Inv X pins σ (upd H s.heap.objs.size (.lst ys)) { s with heap:=s.heap.push { cls:=.type "list",data:=.seq its.toArray },toks:=t' } :=
 I.laid (fun _ _ q=>Heap.get?_push_of_some _ q) (Nat.le_refl _) ⟨hz,its,0,hv,Heap.get?_push_size _ rfl⟩
theorem Inv.fresh (I:Inv X pins σ H s):H s.heap.objs.size=none:=I.hok.fresh (Nat.le_refl _)
theorem Inv.lstM (I:Inv X pins σ H s)(hH:H l=some (.lst xs)):xs.length<=sizeLine∧∃ (its:List Value) (n:Nat),bX xs its∧xs.length=its.length∧s.heap.get? l=some { cls:=.type "list",data:=.seq its.toArray n }:=by
 obtain ⟨z,its,n,r,e⟩:=I.hok l _ hH
 exact ⟨z,its,n,r,r.length,e⟩
theorem Dl {n:Nat}(h:n<=sizeLine):Builtin.List.listTooLong n=false:=by
 unfold Builtin.List.listTooLong
 exact decide_eq_false (by omega)
end
section
variable {X:Cx}
def Ik:V->List V->Hp->VK->Prop:=fun x vs H Q=>∃ l xs y,x = .ref l∧vs=[y]∧H l=some (.lst xs)∧xs.length<sizeLine∧Q .non (upd H l (.lst (xs++[y])))
theorem gA:MtM X "list.append" Ik:=by
 intro pins s σ H x vs v us Q I rx rv h
 obtain ⟨l,xs,y,rfl,rfl,hH,hz,q⟩:=h
 cases rx
 obtain ⟨u,rfl,ru⟩:=rv.one
 obtain ⟨z,its,n,r,hl,e⟩:=I.lstM hH
 refine call_meets F.slot_list_append ⟨_,e,rfl⟩ F.entry_list_append (F.args_list_append_2 _ _) (PySem.list_append l its.toArray n u (by rw [List.size_toArray];omega)) ⟨e,?_⟩
 refine ⟨.non,_,I.lset (its':=its++[u]) hH e (by simp) (r.append (.cons ru .nil)) ?_,rfl,q⟩
 rw [List.length_append,List.length_singleton]
 omega
def Hl:V->List V->Hp->VK->Prop:=fun x vs H Q=>∃ l b xs zs,x = .ref l∧vs=[.ref b]∧H l=some (.lst xs)∧H b=some (.lst zs)∧xs.length+zs.length<=sizeLine∧Q .non (upd H l (.lst (xs++zs)))
theorem Cb:MtM X "list.extend" Hl:=by
 intro pins s σ H x vs v us Q I rx rv h
 obtain ⟨l,b,xs,zs,rfl,rfl,hH,hB,hz,q⟩:=h
 cases rx
 obtain ⟨u,rfl,ru⟩:=rv.one
 cases ru
 obtain ⟨z,its,n,r,hl,e⟩:=I.lstM hH
 obtain ⟨z2,its2,n2,r2,hl2,e2⟩:=I.lstM hB
 have hsz:its.toArray.size+its2.toArray.size<=sizeLine:=by rw [List.size_toArray,List.size_toArray];omega
 have hlong:¬ (!its.toArray.isEmpty&&Builtin.List.listTooLong (its.toArray.size+its2.toArray.size))=true:=by
  rw [Dl hsz,Bool.and_false]
  exact Bool.false_ne_true
 refine call_meets F.slot_list_extend ⟨_,e,rfl⟩ F.entry_list_extend (F.args_list_extend_2 _ _)
  (AutoSeq1.list_extend_list_list_0 l its.toArray n b its2.toArray n2 hlong (by rw [List.size_toArray];omega) (by omega)) ⟨e,e2,?_⟩
 refine ⟨.non,_,I.lset (its':=its++its2) hH e (by simp) (r.append r2) ?_,rfl,q⟩
 rw [List.length_append]
 omega
end
section
variable {prog:Program}{w:World}{A:Around}{E:Value->Shared->Prop}{s:Shared}
end
section
variable {X:Cx}
end
end L2
namespace Att
open PySem PySem.W PySem.Calls PyProof.Rows
theorem nG {P:Params}{h:Heap}:∀ (ns:List Int) (vs:List Value),WellAll P h vs (ns.map WData.int)->IntsAre vs ns:=by
 intro ns
 induction ns with
 | nil =>
  intro vs w
  rw [List.map_nil] at w
  cases w
  exact .nil
 | cons n ns ih =>
  intro vs w
  rw [List.map_cons] at w
  cases w with
  | cons a b =>
   cases a
   exact .cons _ _ (ih _ b)
theorem Ag {l:OpenLaw}{n:Nat}(hn:l.most=some n){P:Params}{h:Heap}{args:List WData}{vals:List Value}
  (hpre:l.row.toRowW.claim.pre args=true) (hwl:WellAll P h vals args) :
  ∃ a vs ns,vals=[Value.ref a]∧args=[WData.list (ns.map WData.int)]∧h.get? a=some { cls:=.type "list",data:=.seq vs.toArray }∧IntsAre vs ns∧ns.length<=n:=by
 have hsh:WShape.hasAll [] args [.list .int]=true:=(pre_splitW hpre).1
 have hc:l.pre.holds [] { args:=args }=true:=(pre_splitW hpre).2
 obtain ⟨d,r,rfl,h1,h2⟩:=hasAllW_cons hsh
 obtain rfl:=hasAllW_nil h2
 obtain ⟨xs,rfl,h3⟩:=hasW_list h1
 obtain ⟨ns,rfl⟩:=items_int h3
 have hlen:ns.length<=n:=by
  unfold OpenLaw.pre at hc
  have h4:(WTm.not (.lt (.lit (.int (n:Int))) (.len (.arg 0)))).holds [] { args:=[.list (ns.map .int)] }=true:=by
   have h4:=(holds_andW hc).1
   rw [hn] at h4
   exact h4
  have h5:=condW_of h4 (w_not (w_lt w_lit (w_len_list (w_arg rfl))))
  rw [List.length_map] at h5
  refine Nat.le_of_not_lt fun q=>?_
  have q':(n:Int)<((ns.length:Nat):Int):=by omega
  first
   | (rw [decide_eq_true q'] at h5;exact absurd h5 (by decide))
   | (simp at h5;omega)
 cases hwl with
 | cons w1 w2 =>
  cases w2
  cases w1 with
  | list ho hall=>exact ⟨_,_,ns,rfl,rfl,ho,nG ns _ hall,hlen⟩
theorem By (l:OpenLaw)(args:List WData):l.row.toRowW.claim.post args (.bool true) args=true :=
 postW_of (r:=l.row.toRowW) (X:=(true==true))
  (show WShape.has [] (.bool true) .bool=true by first | rfl | decide | simp [WShape.has,WShape.arms,WShape.armsAll])
  (show (WTm.eq .res (.lit (.bool true))).value [] { args:=args,res:=some (.bool true),after:=args }=some (.bool (true==true)) from w_eq_bool (w_res rfl) w_lit) rfl
theorem vV {l:OpenLaw}{n:Nat}{q:Program}{loose:List Str}{XP:(Str->Option Value)->Heap->Prop}{YP:World->Heap->Prop}{d:DefRec}
  (hn:l.most=some n) (hdf:d.params.defaults=[])
  (call:∀ (w:World) (s₀ s₁:Shared) (mg mb:Str->Option Value) (fa:Addr) (o:Obj) (pm cd doc:Value) (a:Addr) (vs:List Value) (ns:List Int),
   Ground q loose [] XP w s₀ mg mb s₁.heap->YP w s₁.heap ->
   s₁.heap.get? fa=some o->o.data = .func (docDef d.name d.params d.body d.scope pm cd doc)->s₁.heap.CodeRec cd d.name->mg d.name=some (.ref fa) ->
   s₁.heap.get? a=some { cls:=.type "list",data:=.seq vs.toArray }->IntsAre vs ns->ns.length<=n->s₁.gens = #[] ->
   codeAny (model l.prog w) callerA (.call (.ref fa) ⟨[.ref a],[]⟩) (fun r s'=>r = .ok (.ret (.bool true))∧OldK s₁.heap s'.heap∧s'.os=s₁.os∧AllBare s'.gens) s₁) :
  WalkO q loose XP YP l.row.toRowW d [] (fun f vs=>PySem.call f vs):=by
 intro w s₀ s₁ mg mb G Y fa o pm cd doc dV kV ho hd hcd hD hmg hg args vals as hpre hlay hrd hwl hlo
 obtain rfl:dV = .none:=Dflts.none hD hdf
 obtain rfl:kV = .none:=Dflts.noKw hD
 obtain ⟨a,vs,ns,rfl,rfl,hobj,hints,hlen⟩:=Ag hn hpre hwl
 refine enter_call (codeAny_mono (call w s₀ s₁ mg mb fa o pm cd doc a vs ns G Y ho (fd_plain hd) hcd hmg hobj hints hlen hg) fun r s' hq=>?_)
 obtain ⟨rfl,h2,h3,h4⟩:=hq
 exact ⟨.inl ⟨.bool true,.bool true,[],rfl,fun _=>rfl,.bool true,By l _,fun _=>⟨List.Pairwise.nil,fun _ hm=>(nomatch hm)⟩⟩,h2,h3,h4⟩
section
variable {prog:Program}{w:World}{A:Around}{E:Value->Shared->Prop}{s:Shared}{K:Frag}
end
end Att
namespace L2
open PySem PySem.Spec PyProof.Rows
theorem qR:∀ {vs:List Value} {ns:List Int},IntsAre vs ns->bX (ns.map V.int) vs
 | _,_,.nil=>.nil
 | _,_,.cons n t h=>.cons ⟨t,rfl⟩ (qR h)
def Kq (H:Hp):Prop:=∀ b,H b=none∨∃ o xs,H b=some (.frz o (.lst xs))
theorem Fd {P:Program}{w:World}{K:PySem.W.Frag}{mg mb:Str->Option Value}{CX:CXT}{k:Nat}{fa a:Addr}{fd:FuncData}{x:Str}{sp:Sp}{s₁:Shared}{vs:List Value}{ns:List Int}
  (KX:K.In s₁.heap) (hns:s₁.heap.Ns mainGlobals mg) (hb:s₁.heap.Ns builtinsNs mb) (hbb:∀ x:Str,x ≠ "__name__" -> mb x=bootBuiltins x) (hlim:s₁.heap.NoLimit) (hg:s₁.gens = #[])
  (ha:s₁.heap.get? a=some { cls:=.type "list",data:=.seq vs.toArray }) (hi:IntsAre vs ns) (hl:ns.length<=sizeLine) (hr:fR k callerA)
  (F:∀ base:Heap,K.In base->base.Ns mainGlobals mg->cT P w K mg base CX k fa fd [x] sp) (hbind:∀ (s:Shared) (u:Value),BindsTo s fd ⟨[u],[]⟩ [(x,u)])
  (hsp:∀ H:Hp,Kq H->SqL K H a (ns.map V.int)->sp [.ref a] H (fun v _=>v = .bl true) fun _ _ _=>False)
  (hCX:∀ H e s',CX [] H s₁ (fun _ _ _=>False) e s'->False) :
  codeAny (model P w) callerA (.call (.ref fa) ⟨[.ref a],[]⟩) (fun r s'=>r = .ok (.ret (.bool true))∧OldK s₁.heap s'.heap∧s'.os=s₁.os∧AllBare s'.gens) s₁:=by
 have rv:=qR hi
 have lenV:=hi.length
 have core:∀ H:Hp,Kq H->SqL K H a (ns.map V.int)->HOk P w H s₁.heap->(∀ b,H b≠none->b=a)->(H a≠none->K.lookup a=none) ->
   codeAny (model P w) callerA (.call (.ref fa) ⟨[.ref a],[]⟩) (fun r s'=>r = .ok (.ret (.bool true))∧OldK s₁.heap s'.heap∧s'.os=s₁.os∧AllBare s'.gens) s₁:=by
  intro H hO hS hok hA hK
  have base_of:∀ {b:Addr} {o:Obj},s₁.heap.get? b=some o->H b=none->(tP s₁.heap H).get? b=some o:=fun e n=>Gd e n
  have noA:∀ {b:Addr} {o:Obj} {es:Array DictEntry} {ep:Nat},s₁.heap.get? b=some o->o.data = .dict es ep->H b=none:=fun {b o es ep} e d=>by
   cases q:H b with
   | none=>rfl
   | some u =>
    have e':b=a:=hA b (by rw [q];simp)
    subst e'
    rw [ha] at e;cases e
    have d':Data.seq vs.toArray _=Data.dict es ep:=d
    cases d'
  have nsK:∀ {b:Addr} {m:Str->Option Value},s₁.heap.Ns b m->(tP s₁.heap H).Ns b m:=fun {b m} ⟨o,es,ep,e,d,r⟩=>⟨o,es,ep,base_of e (noA e d),d,r⟩
  have hKb:K.In (tP s₁.heap H):=fun b o e=>base_of (KX b o e) (by
   cases q:H b with
   | none=>rfl
   | some u =>
    have e':b=a:=hA b (by rw [q];simp)
    subst e'
    rw [hK (by rw [q];simp)] at e;cases e)
  have hM:Mod K mg (tP s₁.heap H):=⟨hKb,nsK hns,⟨mb,nsK hb,hbb⟩,let ⟨mc,h1,h2⟩:=hlim;⟨mc,nsK h1,h2⟩⟩
  have e0:yN P w K mg (tP s₁.heap H) callerA [] s₁ H:=⟨rfl,hM,fun b o e=>Ic e,Nat.le_of_eq (Cq _ _),trivial,fun b hb=>absurd (show b∈([]:List Addr) from hb) (by simp),hok,.of_eq hg⟩
  refine codeAny_mono ((F _ hKb (nsK hns)).run callerA [] s₁ H ⟨[.ref a],[]⟩ [.ref a] [.ref a] _ _ hr e0 (hbind s₁ (.ref a)) (.cons rfl .nil) (hsp H hO hS)) fun r s' h=>?_
  cases r with
  | error e=>exact (hCX H e s' h).elim
  | ok fl =>
   cases fl with
   | next=>exact False.elim h
   | brk=>exact False.elim h
   | cont=>exact False.elim h
   | ret u =>
    obtain ⟨v,H',os,bare,un,hok',r',q⟩:=h
    have q':v = .bl true:=q
    subst q'
    obtain rfl:u=Value.bool true:=r'
    refine ⟨rfl,OldK.of_keep fun b o e=>?_,os,bare⟩
    cases q:H b with
    | none=>exact un.keep b o e q (by intro z;exact absurd (show b∈([]:List Addr) from z) (by simp)) (by simp)
    | some u =>
     rcases hO b with z | ⟨ob,xs,z⟩
     ·rw [q] at z;cases z
     ·have z2:=un.frzs b ob _ z
      obtain ⟨e1,_⟩:=hok b _ z
      obtain ⟨e2,_⟩:=hok' b _ z2
      rw [e] at e1;cases e1
      exact e2
 cases hk:K.lookup a with
 | some o =>
  have e:=KX a o hk
  rw [ha] at e
  cases e
  refine core (fun _=>none) (fun _=>.inl rfl) (.inr ⟨_,vs.toArray,_,hk,rfl,rfl,rfl,by rw [List.size_toArray,lenV];exact hl,by simpa using rv⟩) (fun b u z=>by have z':(none:Option HO)=some u:=z;cases z') (fun b z=>absurd rfl z) fun z=>absurd rfl z
 | none =>
  refine core (fun b=>if b=a then some (.frz { cls:=.type "list",data:=.seq vs.toArray } (.lst (ns.map V.int))) else none) (fun b=>?_) (.inl (.inr ⟨{ cls:=.type "list",data:=.seq vs.toArray },if_pos rfl⟩)) (fun b u z=>?_) (fun b z=>?_) fun _=>hk
  ·by_cases hb:b=a
   ·exact .inr ⟨_,_,if_pos hb⟩
   ·exact .inl (if_neg hb)
  ·by_cases hb:b=a
   ·have z':=(if_pos hb).symm.trans z
    cases z'
    subst hb
    exact ⟨ha,by rw [List.length_map];exact hl,vs,_,rv,ha⟩
   ·have z':=(if_neg hb).symm.trans z
    cases z'
  ·by_cases hb:b=a
   ·exact hb
   ·exact absurd (if_neg hb) z
end L2
namespace L2
open PySem PySem.Spec PyProof.Rows
theorem Il {l:PySem.W.OpenLaw}{n k:Nat}{q:Program}{loose:List Str}{XP:(Str->Option Value)->Heap->Prop}{YP:World->Heap->Prop}{d:DefRec}{K:Params->PySem.W.Frag}{CX:World->CXT}{sp:World->Sp}{x:Str}
  (hn:l.most=some n) (hn2:n<=sizeLine) (hdf:d.params.defaults=[]) (hr:fR k callerA)
  (hY:∀ (w:World) (h:Heap),YP w h->(K w.params).In h)
  (F:∀ (w:World) (mg:Str->Option Value) (fa:Addr) (h:Heap),(K w.params).In h->h.Ns mainGlobals mg->mg d.name=some (.ref fa) ->
   ∃ fd:FuncData,(∀ (s:Shared) (u:Value),BindsTo s fd ⟨[u],[]⟩ [(x,u)]) ∧
    ∀ base:Heap,(K w.params).In base->base.Ns mainGlobals mg->cT l.prog w (K w.params) mg base (CX w) k fa fd [x] (sp w))
  (hsp:∀ (w:World) (H:Hp) (a:Addr) (ns:List Int),ns.length<=n->Kq H->SqL (K w.params) H a (ns.map V.int)->sp w [.ref a] H (fun v _=>v = .bl true) fun _ _ _=>False)
  (hCX:∀ (w:World) (H:Hp) (s:Shared) (e:Value) (s':Shared),CX w [] H s (fun _ _ _=>False) e s'->False) :
  PySem.W.WalkO q loose XP YP l.row.toRowW d [] (fun f vs=>PySem.call f vs):=by
 refine Att.vV hn hdf fun w s₀ s₁ mg mb fa o pm cd doc a vs ns G Y ho hd hcd hmg hobj hints hlen hg=>?_
 have KX:=hY w _ Y
 obtain ⟨fd,hb,hF⟩:=F w mg fa _ KX G.T.g hmg
 exact Fd KX G.T.g G.T.b G.T.builtins G.T.nolimit hg hobj hints (Nat.le_trans hlen hn2) hr hF hb (fun H hO hS=>hsp w H a ns hlen hO hS) fun H e s'=>hCX w H s₁ e s'
end L2
namespace L2
open PySem PySem.Spec PyProof.Rows
def Hv (s:Stmt)(j:Nat):Stmt:=match s with
 | .ClassDef _ _ _ body _ _ _ _ _ _ _=>body.getD j (.Pass ⟨0,0,0,0⟩)
 | _=>.Pass ⟨0,0,0,0⟩
def aV (s:Stmt):Arguments:=match s with
 | .FunctionDef _ a _ _ _ _ _ _ _ _=>a
 | _=>{ posonlyargs:=[],args:=[],vararg:=none,kwonlyargs:=[],kw_defaults:=[],kwarg:=none,defaults:=[] }
def aS (s:Stmt):List Stmt:=match s with
 | .FunctionDef _ _ b _ _ _ _ _ _ _=>b
 | _=>[]
def aE (s:Stmt):Scope:=match s with
 | .FunctionDef _ _ _ _ _ _ sc _ _ _=>sc
 | _=>{ kind:=.function,names:=[],isGenerator:=false,isCoroutine:=false }
abbrev E0:XK:=fun _ _ _=>False
set_option genInjectivity false in
structure Fun (K:PySem.W.Frag)(x qual:Str)(st:Stmt)(f:Addr)(fd:FuncData):Prop where
 ex:∃ (oc:Value) (od:Option Addr) (kV doc pm:Value) (an:Option Addr) (cdv ct:Value) (osl:Array (Option Value)),
  fd=PySem.W.fnOf x qual (aV st) (aS st) (aE st) .none kV doc pm an cdv ct∧K.lookup f=some ⟨oc,od,.func fd,osl⟩∧PySem.W.codeIn K cdv qual=true
 kp:PySem.W.keepIn K (.ref f)=true
section
variable {P:Program}{w:World}{K:PySem.W.Frag}{mg:Str->Option Value}{base:Heap}
theorem Fun.binds {x qual:Str}{st:Stmt}{f:Addr}{fd:FuncData}{ps:List Str}(F:Fun K x qual st f fd)
  (h:∀ (kV doc pm:Value) (an:Option Addr) (cdv ct:Value) (us:List Value),us.length=ps.length->bindArgs (PySem.W.fnOf x qual (aV st) (aS st) (aE st) .none kV doc pm an cdv ct) ⟨us,[]⟩=pure (ps.zip us)):kU K fd ps []:=by
 obtain ⟨oc,od,kV,doc,pm,an,cdv,ct,osl,rfl,lk,hcd⟩:=F.ex
 exact .all (h kV doc pm an cdv ct)
theorem bR {x qual:Str}{st:Stmt}{f:Addr}{oc:Value}{od an:Option Addr}{osl:Array (Option Value)}{kV doc pm cdv ct:Value}(l:K.lookup f=some ⟨oc,od,.func (PySem.W.fnOf x qual (aV st) (aS st) (aE st) .none kV doc pm an cdv ct),osl⟩)
 (c:PySem.W.codeIn K cdv qual=true) (k:PySem.W.keepIn K (.ref f)=true):Fun K x qual st f (PySem.W.fnOf x qual (aV st) (aS st) (aE st) .none kV doc pm an cdv ct):=⟨⟨oc,od,kV,doc,pm,an,cdv,ct,osl,rfl,l,c⟩,k⟩
end
theorem eY {A:Around}{k:Nat}(hr:fR k A):A.units+1<cLine:=Nat.lt_of_le_of_lt (Nat.add_le_add_left (by decide:1<=64) _) hr.units
section
variable {X:Cx}
theorem pv (i:Nat){x:Str}{pos:Pos}(hN:X.N[i]?=some x:=by rfl)(hv:Vis X.env.scope x:=by first | exact Or.inl rfl | exact Or.inr (Or.inl rfl) | exact Or.inr (Or.inr rfl))(hd:(x==("__debug__" : Str))=false:=by decide)
 (hcd:(x==("__classdict__" : Str))=false:=by decide):PE X (.Name x pos) (Ot i):=Lf hN hv hd hcd
end
theorem xB {A B:Prop}(h:B):if false=true then A else B:=by
 rw [if_neg Bool.false_ne_true]
 exact h
theorem Cm {A B:Prop}(h:A):if true=true then A else B:=by
 rw [if_pos rfl]
 exact h
theorem fL {c A B:Prop}[Decidable c](h1:c->A)(h2:¬ c->B):if c then A else B:=by
 by_cases h:c
 ·rw [if_pos h]
  exact h1 h
 ·rw [if_neg h]
  exact h2 h
theorem Jx {c A B:Prop}[Decidable c](hc:c)(h:B):if (!decide c)=true then A else B:=by
 rw [decide_eq_true hc]
 exact xB h
def aN (H H':Hp):Prop:=∀ b o,H b=some o->H' b=some o
theorem aN.refl (H:Hp):aN H H:=fun _ _ h=>h
theorem aN.trans {H H1 H2:Hp}(a:aN H H1)(b:aN H1 H2):aN H H2:=fun c o h=>b c o (a c o h)
theorem aN.seq {K:PySem.W.Frag}{H H':Hp}{a:Addr}{xs:List V}(e:aN H H')(h:SqL K H a xs):SqL K H' a xs:=by
 rcases h with (h | ⟨o,h⟩) | h
 ·exact .inl (.inl (e _ _ h))
 ·exact .inl (.inr ⟨o,e _ _ h⟩)
 ·exact .inr h
end L2
namespace Wd
abbrev W:=List Nat
theorem Qc {a b c:W}(h:¬ b<a)(h':¬ c<b):¬ c<a:=fun hc=>List.not_lt.mpr (List.le_trans (List.not_lt.mp h) (List.not_lt.mp h')) hc
def rot (k:Nat)(w:W):W:=w.drop k++w.take k
def tN (w:W):Nat->W
 | 0=>w
 | n+1=>if rot (n+1) w<tN w n then rot (n+1) w else tN w n
def mY (w:W):W:=tN w (w.length-1)
end Wd
namespace Wd
end Wd
namespace Wd
def rep (n:Nat)(l:W):W:=(List.replicate n l).flatten
theorem oF (n:Nat)(l:W):rep (n+1) l=l++rep n l:=by unfold rep;rw [List.replicate_succ,List.flatten_cons]
theorem vX (l:W):rep 0 l=[]:=rfl
theorem Io (l:W):rep 1 l=l:=by rw [oF,vX,List.append_nil]
theorem yZ (n:Nat)(l:W):(rep n l).length=n*l.length:=by
 induction n with
 | zero=>rw [vX,Nat.zero_mul];rfl
 | succ n ih=>rw [oF,List.length_append,ih,Nat.succ_mul,Nat.add_comm]
end Wd
namespace Wd
end Wd
namespace Wd
end Wd
namespace Dt
abbrev Mx:=Nat->Nat->Int
def dB:Nat->(Nat->Int)->Int
 | 0,_=>0
 | n+1,f=>dB n f+f n
def sk (j k:Nat):Nat:=if k<j then k else k+1
def sg (j:Nat):Int:=if j % 2=0 then 1 else -1
def det:Nat->Mx->Int
 | 0,_=>1
 | n+1,A=>dB (n+1) fun j=>sg j*(A 0 j*det n fun i k=>A (i+1) (sk j k))
section
variable {n N p q i j k l:Nat}{A B:Mx}{f g:Nat->Int}{c m:Int}
theorem eD:∀ {n:Nat},(∀ j,j<n->f j=g j)->dB n f=dB n g
 | 0,_=>rfl
 | n+1,h=>by
  show dB n f+f n=dB n g+g n
  rw [eD (n:=n) fun j hj=>h j (by omega),h n (by omega)]
theorem kO:∀ {n:Nat},dB n (fun j=>f j+c*g j)=dB n f+c*dB n g
 | 0=>by show (0:Int)=0+c*0;omega
 | n+1=>by
  show dB n (fun j=>f j+c*g j)+(f n+c*g n)=(dB n f+f n)+c*(dB n g+g n)
  rw [kO (n:=n),Int.mul_add]
  omega
theorem jG:∀ {n:Nat},(∀ j,j<n->f j=0)->dB n f=0
 | 0,_=>rfl
 | n+1,h=>by
  show dB n f+f n=0
  rw [jG (n:=n) fun j hj=>h j (by omega),h n (by omega)]
  rfl
theorem zP {n:Nat}:dB n (fun j=>c*g j)=c*dB n g:=by
 have h:=kO (n:=n) (f:=fun _=>0) (c:=c) (g:=g)
 rw [jG (fun _ _=>rfl)] at h
 rw [eD (g:=fun j=>0+c*g j) fun j _=>by omega,h]
 omega
theorem rM:∀ {n:Nat},(∀ j,0<j->j<n+1->f j=0)->dB (n+1) f=f 0
 | 0,_=>by show (0:Int)+f 0=f 0;omega
 | n+1,h=>by
  show dB (n+1) f+f (n+1)=f 0
  rw [rM (n:=n) fun j h0 hj=>h j h0 (by omega),h (n+1) (by omega) (by omega)]
  omega
theorem Ft (h:k<n):sk j k<n+1:=by unfold sk;split <;> omega
theorem bO:∀ {n:Nat} {A B:Mx},(∀ i k,i<n->k<n->A i k=B i k)->det n A=det n B
 | 0,_,_,_=>rfl
 | n+1,A,B,h=>by
  refine eD fun j hj=>?_
  rw [h 0 j (by omega) hj,bO (n:=n) fun i k hi hk=>h (i+1) (sk j k) (by omega) (Ft hk)]
def cC (A:Mx)(i:Nat)(u:Nat->Int):Mx:=fun a k=>if a=i then u k else A a k
theorem jL {u:Nat->Int}:cC A i u i=u:=by
 funext k
 exact if_pos rfl
theorem iA {u:Nat->Int}{a:Nat}(h:a≠i):cC A i u a=A a:=by
 funext k
 exact if_neg h
theorem yM {u:Nat->Int}:(fun a k=>cC A (i+1) u (a+1) (sk j k))=cC (fun a k=>A (a+1) (sk j k)) i fun k=>u (sk j k):=by
 funext a k
 unfold cC
 by_cases h:a=i
 ·rw [if_pos h,if_pos (by omega)]
 ·rw [if_neg h,if_neg (by omega)]
theorem kT:∀ {n:Nat} {A:Mx} {i:Nat} {u v:Nat->Int},i<n->det n (cC A i fun k=>u k+c*v k)=det n (cC A i u)+c*det n (cC A i v)
 | n+1,A,0,u,v,_=>by
  have e:∀ w:Nat->Int,det (n+1) (cC A 0 w)=dB (n+1) fun j=>sg j*(w j*det n fun i k=>A (i+1) (sk j k)):=fun w=>by
   refine eD fun j _=>?_
   rw [jL,bO (n:=n) (A:=fun i k=>cC A 0 w (i+1) (sk j k)) (B:=fun i k=>A (i+1) (sk j k)) fun a k _ _=>by rw [iA (by omega)]]
  rw [e,e,e,<- kO]
  refine eD fun j _=>?_
  rw [Int.add_mul,Int.mul_add]
  congr 1
  rw [Int.mul_assoc c,<- Int.mul_assoc (sg j) c,Int.mul_comm (sg j) c,Int.mul_assoc c]
 | n+1,A,i+1,u,v,h=>by
  have e:∀ w:Nat->Int,det (n+1) (cC A (i+1) w)=dB (n+1) fun j=>sg j*(A 0 j*det n (cC (fun a k=>A (a+1) (sk j k)) i fun k=>w (sk j k))):=fun w=>by
   refine eD fun j _=>?_
   rw [yM,iA (by omega)]
  rw [e,e,e,<- kO]
  refine eD fun j _=>?_
  rw [kT (n:=n) (i:=i) (u:=fun k=>u (sk j k)) (v:=fun k=>v (sk j k)) (by omega),Int.mul_add,Int.mul_add]
  congr 1
  rw [<- Int.mul_assoc (A 0 j) c,Int.mul_comm (A 0 j) c,Int.mul_assoc c,<- Int.mul_assoc (sg j) c,Int.mul_comm (sg j) c,Int.mul_assoc c]
theorem yX:sg (j+1) = - sg j:=by
 unfold sg
 by_cases h:j % 2=0
 ·rw [if_pos h,if_neg (by omega)]
 ·rw [if_neg h,if_pos (by omega)];rfl
theorem Nt:sg j*sg j=1:=by
 unfold sg
 split <;> rfl
theorem dbl {F:Nat->Nat->Int}:∀ {N:Nat},(∀ j l,l<j->j<=N->F j l+F l (j-1)=0)->dB (N+1) (fun j=>dB N (F j))=0
 | 0,_=>rfl
 | N+1,h=>by
  have ih:=dbl (N:=N) fun j l hl hj=>h j l hl (by omega)
  have e1:dB (N+1) (fun j=>dB (N+1) (F j))=dB (N+1) (fun j=>dB N (F j)+1*F j N):=eD fun j _=>by
   show dB N (F j)+F j N=_
   omega
  have e2:dB (N+1) (fun l=>F l N+1*F (N+1) l)=0:=jG fun l hl=>by
   have:=h (N+1) l (by omega) (by omega)
   rw [Nat.add_sub_cancel] at this
   omega
  rw [kO] at e1 e2
  show dB (N+1) (fun j=>dB (N+1) (F j))+dB (N+1) (F (N+1))=0
  have e3:dB (N+1) (F (N+1))=dB (N+1) fun l=>F (N+1) l:=rfl
  rw [e1,ih]
  omega
theorem Ox (h:l<j):sk j (sk l k)=sk l (sk (j-1) k):=by
 have a:∀ x y:Nat,sk x y=if y<x then y else y+1:=fun _ _=>rfl
 by_cases h1:k<l
 ·rw [a l k,if_pos h1,a j k,if_pos (by omega),a (j-1) k,if_pos (by omega),a l k,if_pos h1]
 ·rw [a l k,if_neg h1]
  by_cases h2:k+1<j
  ·rw [a j,if_pos h2,a (j-1) k,if_pos (by omega),a l k,if_neg h1]
  ·rw [a j,if_neg h2,a (j-1) k,if_neg (by omega),a l,if_neg (by omega)]
theorem Pw (h:∀ k,k<n+2->A 0 k=A 1 k):det (n+2) A=0:=by
 have e:det (n+2) A=dB (n+2) fun j=>dB (n+1) fun l=>sg j*(A 0 j*(sg l*(A 1 (sk j l)*det n fun i k=>A (i+2) (sk j (sk l k))))):=by
  refine eD fun j _=>?_
  show sg j*(A 0 j*dB (n+1) fun l=>sg l*(A 1 (sk j l)*det n fun i k=>A (i+2) (sk j (sk l k))))=_
  rw [<- zP,<- zP]
 rw [e]
 refine dbl fun j l hl hj=>?_
 have s1:sk j l=l:=by unfold sk;rw [if_pos hl]
 have s2:sk l (j-1)=j:=by unfold sk;rw [if_neg (by omega)];omega
 have s3:(fun i k=>A (i+2) (sk l (sk (j-1) k)))=fun i k=>A (i+2) (sk j (sk l k)):=by
  funext i k
  rw [Ox hl]
 rw [s1,s2,s3,<- h j (by omega),<- h l (by omega)]
 have s4:sg j = - sg (j-1):=by rw [<- yX,Nat.sub_add_cancel (by omega)]
 rw [s4]
 generalize det n (fun i k=>A (i+2) (sk j (sk l k)))=d
 grind
theorem alt:∀ {n i:Nat} {A:Mx},i+1<n->(∀ k,k<n->A i k=A (i+1) k)->det n A=0
 | n+2,0,A,_,h=>Pw h
 | n+1,i+1,A,hi,h=>by
  refine jG fun j _=>?_
  rw [alt (n:=n) (i:=i) (A:=fun a k=>A (a+1) (sk j k)) (by omega) fun k hk=>h (sk j k) (Ft hk),Int.mul_zero,Int.mul_zero]
def tr (p i:Nat):Nat:=if i=p then p+1 else if i=p+1 then p else i
theorem mH {u v:Nat->Int}(h:i≠j):cC (cC A i u) j v=cC (cC A j v) i u:=by
 funext a k
 unfold cC
 by_cases h1:a=i
 ·rw [if_neg (by omega),if_pos h1,if_pos h1]
 ·by_cases h2:a=j
  ·rw [if_pos h2,if_neg h1,if_pos h2]
  ·rw [if_neg h2,if_neg h1,if_neg h1,if_neg h2]
theorem uD {u v:Nat->Int}(h:i<n):det n (cC A i fun k=>u k+v k)=det n (cC A i u)+det n (cC A i v):=by
 have:=kT (c:=1) (A:=A) (u:=u) (v:=v) h
 rw [Int.one_mul] at this
 rw [<- this]
 congr 2
 funext k
 omega
theorem hG (u:Nat->Int)(h:∀ k,u k=A i k):det n (cC A i u)=det n A:=bO fun a k _ _=>by
 unfold cC
 by_cases e:a=i
 ·rw [if_pos e,h,e]
 ·rw [if_neg e]
theorem swap (h:p+1<n):det n (fun i k=>A (tr p i) k) = - det n A:=by
 have D:∀ x y:Nat->Int,∃ d,det n (cC (cC A p x) (p+1) y)=d:=fun _ _=>⟨_,rfl⟩
 have z:∀ w:Nat->Int,det n (cC (cC A p w) (p+1) w)=0:=fun w=>alt h fun k _=>by rw [iA (by omega),jL,jL]
 have l2:∀ x y y':Nat->Int,det n (cC (cC A p x) (p+1) fun k=>y k+y' k)=det n (cC (cC A p x) (p+1) y)+det n (cC (cC A p x) (p+1) y'):=fun x y y'=>uD h
 have l1:∀ x x' y:Nat->Int,det n (cC (cC A p fun k=>x k+x' k) (p+1) y)=det n (cC (cC A p x) (p+1) y)+det n (cC (cC A p x') (p+1) y):=fun x x' y=>by
  rw [mH (by omega),mH (u:=x) (by omega),mH (u:=x') (by omega)]
  exact uD (by omega)
 have e0:=z fun k=>A p k+A (p+1) k
 rw [l2,l1,l1,z,z] at e0
 have e1:det n (cC (cC A p (A p)) (p+1) (A (p+1)))=det n A:=by
  rw [hG _ (fun k=>by rw [iA (by omega)]),hG _ (fun k=>rfl)]
 have e2:det n (cC (cC A p (A (p+1))) (p+1) (A p))=det n fun i k=>A (tr p i) k:=by
  refine bO fun a k _ _=>?_
  unfold cC tr
  by_cases h1:a=p+1
  ·rw [if_pos h1,if_neg (by omega),if_pos h1]
  ·rw [if_neg h1]
   by_cases h2:a=p
   ·rw [if_pos h2,if_pos h2]
   ·rw [if_neg h2,if_neg h2,if_neg h1]
 rw [e1,e2] at e0
 omega
theorem oA:∀ (d:Nat) {i:Nat} {A:Mx},i+1+d<n->(∀ k,k<n->A i k=A (i+1+d) k)->det n A=0
 | 0,i,A,hi,h=>alt hi h
 | d+1,i,A,hi,h=>by
  have h2:=oA d (i:=i) (A:=fun a k=>A (tr (i+1+d) a) k) (by omega) fun k hk=>by
   show A (tr (i+1+d) i) k=A (tr (i+1+d) (i+1+d)) k
   unfold tr
   rw [if_neg (by omega),if_neg (by omega),if_pos rfl]
   exact h k hk
  rw [swap (by omega)] at h2
  omega
theorem Li {t:Int}(h0:0<i)(h:i<n):det n (cC A i fun k=>A i k-t*A 0 k)=det n A:=by
 have e:=kT (c:=-t) (A:=A) (u:=A i) (v:=A 0) h
 rw [hG (A i) fun _=>rfl,oA (i-1) (i:=0) (A:=cC A i (A 0)) (by omega) fun k _=>?_,Int.mul_zero,Int.add_zero] at e
 ·rw [<- e]
  congr 2
  funext k
  rw [Int.neg_mul]
  omega
 ·rw [iA (by omega),show 0+1+(i-1)=i by omega,jL]
theorem Dp {t:Nat->Int}:∀ {m:Nat},m<=n->det n (fun i k=>if 0<i∧i<m then A i k-t i*A 0 k else A i k)=det n A
 | 0,_=>bO fun i k _ _=>if_neg (by omega)
 | m+1,hm=>by
  rw [<- Dp (m:=m) (by omega)]
  by_cases h0:m=0
  ·subst h0
   exact bO fun i k _ _=>by rw [if_neg (by omega),if_neg (by omega)]
  ·rw [<- Li (A:=fun i k=>if 0<i∧i<m then A i k-t i*A 0 k else A i k) (i:=m) (t:=t m) (by omega) (by omega)]
   refine bO fun i k _ _=>?_
   unfold cC
   dsimp only
   by_cases h1:i=m
   ·subst h1
    rw [if_pos rfl,if_pos (by omega),if_neg (by omega),if_neg (by omega)]
   ·rw [if_neg h1]
    by_cases h2:0<i∧i<m
    ·rw [if_pos h2,if_pos (by omega)]
    ·rw [if_neg h2,if_neg (by omega)]
theorem Kh:∀ {n:Nat} {A:Mx},(∀ i,i<n+1->A i 0=0)->det (n+1) A=0
 | n,A,h=>by
  refine jG fun j hj=>?_
  cases j with
  | zero=>rw [h 0 (by omega),Int.zero_mul,Int.mul_zero]
  | succ j =>
   cases n with
   | zero=>omega
   | succ n=>rw [Kh (n:=n) (A:=fun i k=>A (i+1) (sk (j+1) k)) fun i hi=>h (i+1) (by omega),Int.mul_zero,Int.mul_zero]
theorem Nr (h:∀ i,i<n->A (i+1) 0=0):det (n+1) A=A 0 0*det n fun i k=>A (i+1) (k+1):=by
 show dB (n+1) _=_
 rw [rM fun j h0 hj=>?_]
 ·show sg 0*(A 0 0*det n fun i k=>A (i+1) (sk 0 k))=_
  rw [show sg 0=1 from rfl,Int.one_mul]
  rfl
 ·cases n with
  | zero=>omega
  | succ n =>
   rw [Kh (A:=fun i k=>A (i+1) (sk j k)) fun i hi=>by
    show A (i+1) (sk j 0)=0
    rw [show sk j 0=0 by unfold sk;rw [if_pos h0]]
    exact h i hi,Int.mul_zero,Int.mul_zero]
def Cg (m a b:Int):Prop:=m∣a-b
theorem Cg.refl (a:Int):Cg m a a:=by unfold Cg;rw [Int.sub_self];exact Int.dvd_zero m
theorem Cg.symm {a b:Int}(h:Cg m a b):Cg m b a:=by
 unfold Cg at *
 rw [<- Int.neg_sub]
 exact Int.dvd_neg.mpr h
theorem Cg.trans {a b d:Int}(h:Cg m a b)(g:Cg m b d):Cg m a d:=by
 unfold Cg at *
 rw [show a-d=(a-b)+(b-d) by omega]
 exact Int.dvd_add h g
theorem Cg.add {a b a' b':Int}(h:Cg m a b)(g:Cg m a' b'):Cg m (a+a') (b+b'):=by
 unfold Cg at *
 rw [show a+a'-(b+b')=(a-b)+(a'-b') by omega]
 exact Int.dvd_add h g
theorem Cg.mul {a b a' b':Int}(h:Cg m a b)(g:Cg m a' b'):Cg m (a*a') (b*b'):=by
 unfold Cg at *
 rw [show a*a'-b*b'=(a-b)*a'+b*(a'-b') by rw [Int.sub_mul,Int.mul_sub];omega]
 exact Int.dvd_add (Int.dvd_mul_of_dvd_left h) (Int.dvd_mul_of_dvd_right g)
theorem Cg.sub {a b a' b':Int}(h:Cg m a b)(g:Cg m a' b'):Cg m (a-a') (b-b'):=by
 unfold Cg at *
 rw [show a-a'-(b-b')=(a-b)-(a'-b') by omega]
 exact Int.dvd_sub h g
theorem Cg.neg {a b:Int}(h:Cg m a b):Cg m (-a) (-b):=by
 have:=(Cg.refl (m:=m) 0).sub h
 rwa [Int.zero_sub,Int.zero_sub] at this
theorem lX (a:Int):Cg m (a % m) a:=by
 unfold Cg
 rw [Int.emod_def]
 rw [show a-m*(a/m)-a = -(m*(a/m)) by omega]
 exact Int.dvd_neg.mpr (Int.dvd_mul_right ..)
theorem Ea:∀ {n:Nat},(∀ j,j<n->Cg m (f j) (g j))->Cg m (dB n f) (dB n g)
 | 0,_=>Cg.refl _
 | n+1,h=>(Ea (n:=n) fun j hj=>h j (by omega)).add (h n (by omega))
theorem sK:∀ {n:Nat} {A B:Mx},(∀ i k,i<n->k<n->Cg m (A i k) (B i k))->Cg m (det n A) (det n B)
 | 0,_,_,_=>Cg.refl _
 | n+1,A,B,h=>Ea fun j hj=>(Cg.refl _).mul ((h 0 j (by omega) hj).mul (sK fun i k hi hk=>h (i+1) (sk j k) (by omega) (Ft hk)))
theorem Fc {t:Nat->Int}(h:∀ i,i<n->m∣A (i+1) 0-t i*A 0 0):Cg m (det (n+1) A) (A 0 0*det n fun i k=>A (i+1) (k+1)-t i*A 0 (k+1)):=by
 rw [<- Dp (n:=n+1) (A:=A) (t:=fun i=>t (i-1)) (m:=n+1) (Nat.le_refl _)]
 refine (sK (B:=fun i k=>if i=0 then A 0 k else if k=0 then 0 else A i k-t (i-1)*A 0 k) fun i k hi hk=>?_).trans ?_
 ·by_cases h0:i=0
  ·subst h0
   rw [if_neg (by omega),if_pos rfl]
   exact Cg.refl _
  ·rw [if_pos (by omega),if_neg h0]
   by_cases hk0:k=0
   ·subst hk0
    rw [if_pos rfl]
    have:=h (i-1) (by omega)
    rw [show i-1+1=i by omega] at this
    unfold Cg
    rw [Int.sub_zero]
    exact this
   ·rw [if_neg hk0]
    exact Cg.refl _
 ·rw [Nr fun i _=>by rw [if_neg (by omega),if_pos rfl]]
  rw [if_pos rfl]
  have e:det n (fun i k=>if i+1=0 then A 0 (k+1) else if k+1=0 then 0 else A (i+1) (k+1)-t (i+1-1)*A 0 (k+1))=det n fun i k=>A (i+1) (k+1)-t i*A 0 (k+1):=bO fun i k _ _=>by rw [if_neg (by omega),if_neg (by omega)];rfl
  rw [e]
  exact Cg.refl _
def mv (p:Nat)(A:Mx):Mx:=fun i k=>if i=0 then A p k else if i<=p then A (i-1) k else A i k
theorem Fw:∀ {p:Nat} {A:Mx},p<n->det n (mv p A)=sg p*det n A
 | 0,A,h=>by
  rw [show sg 0=1 from rfl,Int.one_mul]
  exact bO fun i k _ _=>by
   unfold mv
   by_cases h0:i=0
   ·rw [if_pos h0,h0]
   ·rw [if_neg h0,if_neg (by omega)]
 | p+1,A,h=>by
  have ih:=Fw (p:=p) (A:=fun i k=>A (tr p i) k) (by omega)
  rw [swap h] at ih
  rw [yX,Int.neg_mul,<- Int.mul_neg,<- ih]
  refine bO fun i k _ _=>?_
  unfold mv tr
  dsimp only
  by_cases h0:i=0
  ·rw [if_pos h0,if_pos h0,if_pos rfl]
  ·rw [if_neg h0,if_neg h0]
   by_cases h1:i<=p
   ·rw [if_pos (by omega),if_pos h1,if_neg (by omega),if_neg (by omega)]
   ·by_cases h2:i=p+1
    ·subst h2
     rw [if_pos (by omega),if_neg (by omega),if_neg (by omega),if_pos rfl]
     rfl
    ·rw [if_neg (by omega),if_neg h1,if_neg (by omega),if_neg h2]
end
end Dt
namespace Dt
def sN:Nat->(Nat->Nat)->Nat
 | 0,_=>0
 | n+1,f=>sN n f+f n
def pN:Nat->(Nat->Nat)->Nat
 | 0,_=>1
 | n+1,f=>f 0*pN n fun i=>f (i+1)
section
variable {n N p q i j k l:Nat}{A B:Mx}{f g:Nat->Nat}{c m:Int}
theorem Eg:∀ {n:Nat},(∀ j,j<n->f j<=g j)->sN n f<=sN n g
 | 0,_=>Nat.le_refl _
 | n+1,h=>Nat.add_le_add (Eg fun j hj=>h j (by omega)) (h n (by omega))
theorem wY {c:Nat}:∀ {n:Nat},sN n (fun j=>f j*c)=sN n f*c
 | 0=>by show 0=0*c;omega
 | n+1=>by
  show sN n (fun j=>f j*c)+f n*c=(sN n f+f n)*c
  rw [wY (n:=n),Nat.add_mul]
theorem Jn:∀ {n:Nat} {f g:Nat->Nat},(∀ j,j<n->f j<=g j)->pN n f<=pN n g
 | 0,_,_,_=>Nat.le_refl _
 | n+1,f,g,h=>Nat.mul_le_mul (h 0 (by omega)) (Jn fun j hj=>h (j+1) (by omega))
theorem yS {f:Nat->Int}:∀ {n:Nat},(dB n f).natAbs<=sN n fun j=>(f j).natAbs
 | 0=>Nat.le_refl _
 | n+1=>by
  have:=yS (f:=f) (n:=n)
  have h2:=Int.natAbs_add_le (dB n f) (f n)
  show (dB n f+f n).natAbs<=sN n (fun j=>(f j).natAbs)+(f n).natAbs
  omega
theorem Kb {f:Nat->Nat}{j:Nat}:∀ {n:Nat},sN n (fun k=>f (sk j k))<=sN (n+1) f
 | 0=>Nat.zero_le _
 | n+1=>by
  show sN n (fun k=>f (sk j k))+f (sk j n)<=sN (n+1) f+f (n+1)
  by_cases h:n<j
  ·have e:∀ m,m<=n+1->sN m (fun k=>f (sk j k))=sN m f:=fun m=>by
    induction m with
    | zero=>intro _;rfl
    | succ m ih =>
     intro hm
     show sN m (fun k=>f (sk j k))+f (sk j m)=sN m f+f m
     rw [ih (by omega),show sk j m=m by unfold sk;rw [if_pos (by omega)]]
   have:=e (n+1) (Nat.le_refl _)
   have e2:sN (n+1) (fun k=>f (sk j k))=sN n (fun k=>f (sk j k))+f (sk j n):=rfl
   omega
  ·have:=Kb (j:=j) (f:=f) (n:=n)
   rw [show sk j n=n+1 by unfold sk;rw [if_neg h]]
   omega
theorem Kn:(sg j).natAbs=1:=by unfold sg;split <;> rfl
theorem qS:∀ {n:Nat} {A:Mx},(det n A).natAbs<=pN n fun i=>sN n fun k=>(A i k).natAbs
 | 0,_=>Nat.le_refl _
 | n+1,A=>by
  refine Nat.le_trans yS ?_
  show _<=sN (n+1) (fun k=>(A 0 k).natAbs)*pN n fun i=>sN (n+1) fun k=>(A (i+1) k).natAbs
  rw [<- wY]
  refine Eg fun j _=>?_
  rw [Int.natAbs_mul,Int.natAbs_mul,Kn,Nat.one_mul]
  exact Nat.mul_le_mul_left _ (Nat.le_trans qS (Jn fun i _=>Kb (f:=fun k=>(A (i+1) k).natAbs)))
def ent (M:List (List Int)):Mx:=fun i k=>(M.getD i []).getD k 0
theorem rF {α:Type}{M:List α}{d:α}(i:Nat):(M.eraseIdx p).getD i d=M.getD (if i<p then i else i+1) d:=by
 rw [List.getD_eq_getElem?_getD,List.getD_eq_getElem?_getD,List.getElem?_eraseIdx]
 split <;> rfl
theorem Jd {M:List (List Int)}{u:List Int->List Int}(h:i<M.length):(M.map u).getD i []=u (M.getD i []):=by
 rw [List.getD_eq_getElem?_getD,List.getD_eq_getElem?_getD,List.getElem?_map,List.getElem?_eq_getElem h]
 rfl
theorem elim {M:List (List Int)}{top:List Int}{back:Int}{t:List Int->Int}{low:List Int->List Int}(hp:p<n+1)(hM:M.length=n+1)(htop:∀ k,k<n+1->Cg m (top.getD k 0) ((M.getD p []).getD k 0))(hb:Cg m (top.getD 0 0*back) 1)
  (ht:∀ r∈M,Cg m (t r) (r.getD 0 0*back)) (hlow:∀ r∈M,∀ k,k<n->(low r).getD k 0=r.getD (k+1) 0-t r*top.getD (k+1) 0):Cg m (det (n+1) (ent M)) (sg p*(top.getD 0 0*det n (ent ((M.eraseIdx p).map low)))):=by
 have e1:det (n+1) (ent M)=sg p*det (n+1) (mv p (ent M)):=by
  rw [Fw hp,<- Int.mul_assoc,Nt,Int.one_mul]
 have mem:∀ i,i<n->(M.eraseIdx p).getD i []∈M:=fun i hi=>by
  rw [rF]
  split
  ·rw [List.getD_eq_getElem?_getD,List.getElem?_eq_getElem (by omega)]
   exact List.getElem_mem _
  ·rw [List.getD_eq_getElem?_getD,List.getElem?_eq_getElem (by omega)]
   exact List.getElem_mem _
 have row:∀ i k,i<n->mv p (ent M) (i+1) k=((M.eraseIdx p).getD i []).getD k 0:=fun i k hi=>by
  unfold mv ent
  rw [if_neg (by omega),rF]
  by_cases h:i<p
  ·rw [if_pos (by omega),if_pos h]
   rfl
  ·rw [if_neg (by omega),if_neg h]
 rw [e1]
 refine (Cg.refl _).mul ?_
 refine (sK (B:=fun i k=>if i=0 then top.getD k 0 else mv p (ent M) i k) fun i k hi hk=>?_).trans ?_
 ·by_cases h0:i=0
  ·subst h0
   rw [if_pos rfl]
   exact (htop k hk).symm
  ·rw [if_neg h0]
   exact Cg.refl _
 ·refine (Fc (t:=fun i=>t ((M.eraseIdx p).getD i [])) fun i hi=>?_).trans ?_
  ·rw [if_neg (by omega),if_pos rfl,row i 0 hi]
   have h1:=ht _ (mem i hi)
   have h2:=(h1.mul (Cg.refl (top.getD 0 0))).trans (b:=((M.eraseIdx p).getD i []).getD 0 0*back*top.getD 0 0) (d:=((M.eraseIdx p).getD i []).getD 0 0*1) (by
    rw [Int.mul_assoc,Int.mul_comm back]
    exact (Cg.refl _).mul hb)
   rw [Int.mul_one] at h2
   exact h2.symm
  ·rw [if_pos rfl]
   refine (Cg.refl _).mul ?_
   rw [bO (B:=ent ((M.eraseIdx p).map low)) fun i k hi hk=>?_]
   ·exact Cg.refl _
   ·rw [if_neg (by omega),if_pos rfl,row i (k+1) hi]
    unfold ent
    rw [Jd (by rw [List.length_eraseIdx];split <;> omega),hlow _ (mem i hi) k hk]
theorem Op {M:List (List Int)}(h:∀ r∈M,m∣r.getD 0 0)(hM:M.length=n+1):Cg m (det (n+1) (ent M)) 0:=by
 rw [<- Kh (n:=n) (A:=fun i k=>if k=0 then 0 else ent M i k) fun i _=>if_pos rfl]
 refine sK fun i k hi hk=>?_
 by_cases hk0:k=0
 ·subst hk0
  rw [if_pos rfl]
  unfold Cg ent
  rw [Int.sub_zero]
  refine h _ ?_
  rw [List.getD_eq_getElem?_getD,List.getElem?_eq_getElem (by omega)]
  exact List.getElem_mem _
 ·rw [if_neg hk0]
  exact Cg.refl _
theorem Ii:∀ {r:List Int} {n:Nat},r.length=n->(((r.map fun x=>if x<0 then -x else x).sum:Int))=((sN n fun k=>(r.getD k 0).natAbs:Nat):Int):=by
 intro r
 induction r with
 | nil=>intro n h;subst h;rfl
 | cons x r ih =>
  intro n h
  subst h
  have key:∀ (n:Nat) (f:Nat->Nat),sN (n+1) f=f 0+sN n fun k=>f (k+1):=fun n=>by
   induction n with
   | zero=>intro f;show 0+f 0=f 0+0;omega
   | succ n ih2 =>
    intro f
    show sN (n+1) f+f (n+1)=f 0+(sN n (fun k=>f (k+1))+f (n+1))
    rw [ih2]
    omega
  rw [List.map_cons,List.sum_cons,ih rfl,List.length_cons,key]
  show (if x<0 then -x else x)+_=(((x.natAbs+sN r.length fun k=>(r.getD k 0).natAbs:Nat)):Int)
  rw [Int.natCast_add]
  congr 1
  split <;> omega
end
end Dt
namespace Wd
def Ls (t:W)(n i:Nat):W:=(List.range n).map fun k=>t.getD ((i+k) % t.length) 0
def qD (t:W)(n:Nat):List W:=(List.range (t.length+1-n)).map (Ls t n)
end Wd
namespace Wd
theorem mS:∀ {xs ys:List W},xs.Perm ys->xs.Pairwise (fun a b=>¬ b<a)->ys.Pairwise (fun a b=>¬ b<a)->xs=ys:=by
 intro xs ys h h1 h2
 refine List.Perm.eq_of_pairwise ?_ h1 h2 h
 intro a b _ _ z1 z2
 exact Std.Trichotomous.trichotomous a b z2 z1
end Wd
namespace Hg
variable {bg en:List Nat->List Nat}
inductive Rch (bg en:List Nat->List Nat)(ms:List (List Nat))(p:List Nat):List Nat->Prop
 | self:Rch bg en ms p p
 | fw {w:List Nat}:w∈ms->Rch bg en ms p (bg w)->Rch bg en ms p (en w)
 | bw {w:List Nat}:w∈ms->Rch bg en ms p (en w)->Rch bg en ms p (bg w)
def Cl (bg en:List Nat->List Nat)(ls:List (List Nat))(w:List Nat):Prop:=bg w∈ls↔en w∈ls
set_option genInjectivity false in
structure Pass (bg en:List Nat->List Nat)(ms:List (List Nat))(p:List Nat)(fs:List (List Nat))(i:Nat)(ls:List (List Nat)):Prop where
 nd:ls.Nodup
 pre:fs <+: ls
 rch:∀ z∈ls,Rch bg en ms p z
 cl:ls.length=fs.length->∀ w∈ms.take i,Cl bg en fs w
theorem xP {α:Type}[BEq α][LawfulBEq α]:∀ {ls ms:List α},ls.Nodup->(∀ z∈ls,z∈ms)->ls.length<=ms.length
 | [],_,_,_=>Nat.zero_le _
 | a::ls,ms,h,hs=>by
  rw [List.nodup_cons] at h
  have ha:=hs a (List.mem_cons_self ..)
  have ih:=xP (ls:=ls) (ms:=ms.erase a) h.2 fun z hz=>(List.mem_erase_of_ne (fun e:z=a=>h.1 (e▸hz))).mpr (hs z (List.mem_cons_of_mem _ hz))
  have:=List.length_erase_of_mem ha
  have:=List.length_pos_of_mem ha
  rw [List.length_cons]
  omega
end Hg
namespace Dt
def dH (N:Nat):Prop:=1<N∧∀ x,0<x->x<N->Nat.gcd x N=1
section
variable {N F b d e n:Nat}
def pm (N:Nat):Nat->Nat->Nat->Nat
 | 0,_,_=>1 % N
 | f+1,b,e=>if e=0 then 1 % N else if e % 2=1 then b*pm N f (b*b % N) (e/2) % N else pm N f (b*b % N) (e/2)
theorem uE (N b e:Nat):(b*b % N) ^ e % N=b ^ (2*e) % N:=by
 rw [<- Nat.pow_mod,Nat.pow_mul,Nat.pow_two]
theorem zB:∀ (f b e:Nat),e<2 ^ f->pm N f b e=b ^ e % N
 | 0,b,e,h=>by
  obtain rfl:e=0:=by simpa using h
  rfl
 | f+1,b,e,h=>by
  unfold pm
  by_cases h0:e=0
  ·rw [if_pos h0,h0,Nat.pow_zero]
  ·rw [if_neg h0]
   have ih:=zB f (b*b % N) (e/2) (by rw [Nat.pow_succ] at h;omega)
   by_cases h1:e % 2=1
   ·rw [if_pos h1,ih,Nat.mul_mod,Nat.mod_mod,uE,<- Nat.mul_mod,Nat.mul_comm,<- Nat.pow_succ]
    congr 2
    omega
   ·rw [if_neg h1,ih,uE]
    congr 2
    omega
theorem Hi {b d:Nat}(hd:1<d){x y:Nat}(hx:b ^ x % d=1)(hy:b ^ y % d=1):b ^ (y % x) % d=1:=by
 have e:b ^ y=(b ^ x) ^ (y/x)*b ^ (y % x):=by rw [<- Nat.pow_mul,<- Nat.pow_add,Nat.div_add_mod]
 rw [e,Nat.mul_mod,Nat.pow_mod,hx,Nat.one_pow,Nat.mod_eq_of_lt hd,Nat.one_mul,Nat.mod_mod] at hy
 exact hy
theorem Iq {b d:Nat}(hd:1<d):∀ (x y:Nat),b ^ x % d=1->b ^ y % d=1->b ^ (Nat.gcd x y) % d=1:=fun x y=>by
 induction x,y using Nat.gcd.induction with
 | H0 y=>intro _ h;rw [Nat.gcd_zero_left];exact h
 | H1 x y hx ih =>
  intro h1 h2
  rw [Nat.gcd_rec]
  exact ih (Hi hd h1 h2) h1
theorem nB (rs:List Nat)(hN:1<N)(hF:N<=F*F)(h1:b ^ F % N=1)(h2:∀ r∈rs,Nat.gcd (b ^ (F/r) % N+(N-1)) N=1)(h3:∀ g,g∣F->g<F->∃ r∈rs,g∣F/r):dH N:=by
 have key:∀ d,d∣N->1<d->F<d:=fun d hdN hd=>by
  have hdF:b ^ F % d=1:=by
   have:=Nat.mod_mod_of_dvd (b ^ F) hdN
   rw [h1,Nat.mod_eq_of_lt hd] at this
   exact this.symm
  have no:∀ e,0<e->e<F->b ^ e % d≠1:=fun e he heF hc=>by
   have hg:=Iq hd e F hc hdF
   have hgF:=Nat.gcd_dvd_right e F
   have hge:Nat.gcd e F<=e:=Nat.gcd_le_left F he
   obtain ⟨r,hr,hgr⟩:=h3 _ hgF (by omega)
   obtain ⟨q,hq⟩:=hgr
   have hFr:b ^ (F/r) % d=1:=by rw [hq,Nat.pow_mul,Nat.pow_mod,hg,Nat.one_pow,Nat.mod_eq_of_lt hd]
   have hdd:d∣b ^ (F/r) % N+(N-1):=by
    have e1:b ^ (F/r) % N % d=1:=by rw [Nat.mod_mod_of_dvd _ hdN];exact hFr
    refine Nat.dvd_of_mod_eq_zero ?_
    have e2:(b ^ (F/r) % N+(N-1)) % d=(1+(N-1)) % d:=by rw [Nat.add_mod,e1,Nat.add_mod_mod]
    rw [e2,show 1+(N-1)=N by omega]
    exact Nat.mod_eq_zero_of_dvd hdN
   have:=Nat.dvd_gcd hdd hdN
   rw [h2 r hr] at this
   have:=Nat.le_of_dvd (by omega) this
   omega
  have inj:((List.range F).map fun i=>b ^ i % d).Nodup:=by
   refine List.pairwise_map.mpr (List.Pairwise.imp_of_mem (fun {i j} hi hj hij he=>?_) List.pairwise_lt_range)
   have hj:j<F:=List.mem_range.mp hj
   refine no (j-i) (by omega) (by omega) ?_
   have a1:b ^ (F-i)*b ^ i % d=1:=by rw [<- Nat.pow_add,Nat.sub_add_cancel (by omega)];exact hdF
   have a2:b ^ (F-i)*b ^ j % d=b ^ (j-i) % d:=by
    rw [<- Nat.pow_add,show F-i+j=F+(j-i) by omega,Nat.pow_add,Nat.mul_mod,hdF,Nat.one_mul,Nat.mod_mod]
   rw [<- a2,Nat.mul_mod,<- he,<- Nat.mul_mod]
   exact a1
  have sub:∀ z∈(List.range F).map (fun i=>b ^ i % d),z∈List.range' 1 (d-1):=fun z hz=>by
   obtain ⟨i,hi,rfl⟩:=List.mem_map.mp hz
   have hi:i<F:=List.mem_range.mp hi
   rw [List.mem_range'_1]
   have hlt:=Nat.mod_lt (b ^ i) (show d>0 by omega)
   have hnz:b ^ i % d≠0:=fun z=>by
    have a1:b ^ (F-i)*b ^ i % d=1:=by rw [<- Nat.pow_add,Nat.sub_add_cancel (by omega)];exact hdF
    rw [Nat.mul_mod,z,Nat.mul_zero,Nat.zero_mod] at a1
    cases a1
   omega
  have:=Hg.xP inj sub
  rw [List.length_map,List.length_range,List.length_range'] at this
  omega
 refine ⟨hN,fun x h0 hx=>?_⟩
 refine Classical.byContradiction fun hg=>?_
 have hgN:=Nat.gcd_dvd_right x N
 have hgx:Nat.gcd x N<=x:=Nat.gcd_le_left N h0
 have hgp:0<Nat.gcd x N:=Nat.gcd_pos_of_pos_left N h0
 obtain ⟨c,hc⟩:=hgN
 have k1:=key _ (Nat.gcd_dvd_right x N) (by omega)
 have hc1:1<c:=by
  rcases Nat.lt_or_ge 1 c with z | z
  ·exact z
  ·have:Nat.gcd x N*c<=Nat.gcd x N*1:=Nat.mul_le_mul_left _ z
   omega
 have k2:=key c ⟨_,by rw [Nat.mul_comm];exact hc⟩ hc1
 have:=Nat.mul_lt_mul'' k1 k2
 omega
theorem Fy {k g:Nat}(h:g∣2 ^ (k+1))(hl:g<2 ^ (k+1)):g∣2 ^ (k+1)/2:=by
 obtain ⟨c,hc⟩:=h
 have hc2:c % 2=0:=by
  refine Classical.byContradiction fun z=>?_
  have hco:Nat.Coprime c 2:=by
   show Nat.gcd c 2=1
   rw [Nat.gcd_comm,Nat.gcd_rec,show c % 2=1 by omega]
   rfl
  have h1:=Nat.Coprime.pow_right (k+1) hco
  have h2:c∣2 ^ (k+1):=⟨g,by rw [hc,Nat.mul_comm]⟩
  have h3:=Nat.Coprime.eq_one_of_dvd h1 h2
  rw [h3,Nat.mul_one] at hc
  omega
 refine ⟨c/2,?_⟩
 rw [hc]
 have:c=2*(c/2):=by omega
 rw [Nat.mul_div_assoc _ (Nat.dvd_of_mod_eq_zero hc2)]
theorem oK (h k:Nat)(hh:h<2 ^ (k+1))(h0:0<h)(hp:pm (h*2 ^ (k+1)+1) (k+1+k+1) 3 (h*2 ^ k)=h*2 ^ (k+1)):dH (h*2 ^ (k+1)+1):=by
 have hpos:0<2 ^ k:=Nat.pow_pos (by decide)
 have hs:2 ^ (k+1)=2*2 ^ k:=by rw [Nat.pow_succ,Nat.mul_comm]
 have hN:1<h*2 ^ (k+1)+1:=by have:=Nat.mul_pos h0 (Nat.pow_pos (n:=k+1) (show 0<2 by decide));omega
 have hlt:h*2 ^ k<2 ^ (k+1+k+1):=by
  have:=Nat.mul_lt_mul_of_lt_of_le hh (Nat.le_refl (2 ^ k)) hpos
  rw [<- Nat.pow_add] at this
  exact Nat.lt_trans this (Nat.pow_lt_pow_right (by decide) (by omega))
 rw [zB _ _ _ hlt] at hp
 refine nB (F:=2 ^ (k+1)) (b:=3 ^ h) [2] hN ?_ ?_ ?_ fun g hg hl=>⟨2,by simp,Fy hg hl⟩
 ·have:=Nat.mul_le_mul_right (2 ^ (k+1)) (show h+1<=2 ^ (k+1) from hh)
  rw [Nat.add_mul] at this
  have:=Nat.pow_pos (n:=k+1) (show 0<2 by decide)
  omega
 ·have e3:3 ^ (h*2 ^ (k+1))=3 ^ (h*2 ^ k)*3 ^ (h*2 ^ k):=by
   rw [hs,show h*(2*2 ^ k)=h*2 ^ k*2 by rw [Nat.mul_comm 2,Nat.mul_assoc],Nat.pow_mul,Nat.pow_two]
  rw [<- Nat.pow_mul,e3,Nat.mul_mod,hp]
  have e:∀ x:Nat,0<x->x*x % (x+1)=1:=fun x hx=>by
   rw [show x*x=1+(x+1)*(x-1) by
    have:x*x=(x-1+1)*x:=by rw [Nat.sub_add_cancel hx]
    have h2:(x+1)*(x-1)=x*(x-1)+(x-1):=by rw [Nat.add_mul,Nat.one_mul]
    have h3:x*x=x*(x-1)+x:=by
     have:x*x=x*(x-1+1):=by rw [Nat.sub_add_cancel hx]
     rw [this,Nat.mul_add,Nat.mul_one]
    omega,Nat.add_mul_mod_self_left,Nat.mod_eq_of_lt (by omega)]
  exact e _ (Nat.mul_pos h0 (Nat.pow_pos (by decide)))
 ·intro r hr
  obtain rfl:=List.mem_singleton.mp hr
  rw [<- Nat.pow_mul,hs,Nat.mul_div_cancel_left _ (by decide),<- hs,hp,Nat.add_sub_cancel]
  have e:∀ x:Nat,x % 2=0->Nat.gcd (x+x) (x+1)=1:=fun x hx=>by
   have:Nat.gcd (x+x) (x+1)∣2:=by
    have a1:=Nat.gcd_dvd_left (x+x) (x+1)
    have a2:=Nat.gcd_dvd_right (x+x) (x+1)
    have a3:=Nat.dvd_sub (Nat.dvd_mul_left_of_dvd a2 2) a1
    rw [show 2*(x+1)-(x+x)=2 by omega] at a3
    exact a3
   have hle:=Nat.le_of_dvd (by decide) this
   have hpos:=Nat.gcd_pos_of_pos_right (x+x) (show 0<x+1 by omega)
   rcases Nat.lt_or_ge (Nat.gcd (x+x) (x+1)) 2 with z | z
   ·omega
   ·have e2:Nat.gcd (x+x) (x+1)=2:=by omega
    have a2:=Nat.gcd_dvd_right (x+x) (x+1)
    rw [e2] at a2
    omega
  refine e _ ?_
  rw [hs,<- Nat.mul_assoc,Nat.mul_comm h 2,Nat.mul_assoc]
  exact Nat.mul_mod_right ..
theorem Pa:dH (133*2 ^ 192+1):=oK 133 191 (by decide +kernel) (by decide) (by decide +kernel)
end
end Dt
namespace Dt
section
variable {N F b d e n:Nat}
def xE (N:Nat):Bool:=decide (1<N)&&(List.range N).all fun x=>x==0||Nat.gcd x N==1
theorem Am (h:xE N=true):dH N:=by
 unfold xE at h
 rw [Bool.and_eq_true,decide_eq_true_iff,List.all_eq_true] at h
 refine ⟨h.1,fun x h0 hx=>?_⟩
 have:=h.2 x (List.mem_range.mpr hx)
 rw [Bool.or_eq_true,beq_iff_eq,beq_iff_eq] at this
 omega
theorem dH.cop {r c:Nat}(h:dH r)(hc:¬ r∣c):Nat.Coprime c r:=by
 show Nat.gcd c r=1
 rw [Nat.gcd_comm,Nat.gcd_rec]
 have h1:=h.1
 exact h.2 (c % r) (Nat.pos_of_ne_zero fun z=>hc (Nat.dvd_of_mod_eq_zero z)) (Nat.mod_lt _ (by omega))
theorem vF:∀ (rs:List Nat),(∀ r∈rs,dH r)->∀ c,c∣rs.prod->c≠1->∃ r∈rs,r∣c
 | [],_,c,h,h1=>absurd (Nat.eq_one_of_dvd_one h) h1
 | r::rs,hp,c,h,h1=>by
  by_cases hr:r∣c
  ·exact ⟨r,by simp,hr⟩
  ·rw [List.prod_cons] at h
   obtain ⟨r',h2,h3⟩:=vF rs (fun x hx=>hp x (List.mem_cons_of_mem _ hx)) c (Nat.Coprime.dvd_of_dvd_mul_left ((hp r (by simp)).cop hr) h) h1
   exact ⟨r',List.mem_cons_of_mem _ h2,h3⟩
theorem Qa:dH 2305843009213693951:=by
 have ps:∀ r∈[61,151,331,1321],dH r:=fun r hr=>Am (by
  have:∀ r∈[61,151,331,1321],xE r=true:=by decide +kernel
  exact this r hr)
 refine nB (F:=4027518961) (b:=429339995019680672) [61,151,331,1321] (by decide) (by decide) ?_ ?_ fun g hg hl=>?_
 ·rw [<- zB 32 _ _ (by decide)]
  decide +kernel
 ·intro r hr
  have key:∀ r∈[61,151,331,1321],Nat.gcd (pm 2305843009213693951 32 429339995019680672 (4027518961/r)+(2305843009213693951-1)) 2305843009213693951=1:=by decide +kernel
  rw [<- zB 32 _ _ (Nat.lt_of_le_of_lt (Nat.div_le_self _ _) (by decide))]
  exact key r hr
 ·obtain ⟨c,hc⟩:=hg
  have hF:([61,151,331,1321]:List Nat).prod=4027518961:=by decide
  obtain ⟨r,hr,q,rfl⟩:=vF _ ps c (by rw [hF];exact ⟨g,by rw [hc,Nat.mul_comm]⟩) fun z=>by rw [z,Nat.mul_one] at hc;omega
  have h0:=(ps r hr).1
  refine ⟨r,hr,q,?_⟩
  rw [hc,show g*(r*q)=r*(g*q) by rw [<- Nat.mul_assoc,Nat.mul_comm g r,Nat.mul_assoc],Nat.mul_div_cancel_left _ (by omega)]
theorem Oo:dH (211*2 ^ 192+1):=oK 211 191 (by decide +kernel) (by decide) (by decide +kernel)
theorem Oj:dH (598*2 ^ 192+1):=oK 598 191 (by decide +kernel) (by decide) (by decide +kernel)
theorem Os:dH (652*2 ^ 192+1):=oK 652 191 (by decide +kernel) (by decide) (by decide +kernel)
theorem Pd:dH (721*2 ^ 192+1):=oK 721 191 (by decide +kernel) (by decide) (by decide +kernel)
theorem Ng:dH (850*2 ^ 192+1):=oK 850 191 (by decide +kernel) (by decide) (by decide +kernel)
theorem Ml:dH (1282*2 ^ 192+1):=oK 1282 191 (by decide +kernel) (by decide) (by decide +kernel)
set_option genInjectivity false in
structure Euc (pr:Nat)(num:Int)(last rest:Nat)(lt t:Int):Prop where
 pos:1<=rest
 lp:1<=last
 cop:Nat.gcd rest last=1
 ct:Cg pr (t*num) rest
 cl:Cg pr (lt*num) last
 bd:t.natAbs*last+lt.natAbs*rest<=pr
theorem Euc.init {pr:Nat}{num:Int}{r:Nat}(h:dH pr)(hr:num % pr=r)(h0:r≠0):Euc pr num pr r 0 1:=by
 have h1:=h.1
 have hlt:(r:Int)<pr:=by rw [<- hr];exact Int.emod_lt_of_pos _ (by omega)
 refine ⟨by omega,by omega,h.2 r (by omega) (by omega),?_,?_,by simp⟩
 ·rw [Int.one_mul,<- hr]
  exact (lX num).symm
 ·rw [Int.zero_mul]
  unfold Cg
  rw [Int.zero_sub]
  exact Int.dvd_neg.mpr (Int.dvd_refl _)
theorem Euc.step {pr:Nat}{num:Int}{last rest:Nat}{lt t:Int}(h:Euc pr num last rest lt t)(h1:rest≠1):Euc pr num rest (last % rest) t (lt-(last/rest:Nat)*t):=by
 have hp:=h.pos
 have hd:=Nat.div_add_mod last rest
 have hd2:((last:Nat):Int)=rest*(last/rest:Nat)+(last % rest:Nat):=by exact_mod_cast hd.symm
 refine ⟨?_,hp,?_,?_,h.ct,?_⟩
 ·refine Nat.pos_of_ne_zero fun z=>h1 ?_
  have:=h.cop
  rw [Nat.gcd_eq_left (Nat.dvd_of_mod_eq_zero z)] at this
  exact this
 ·rw [<- Nat.gcd_rec]
  exact h.cop
 ·have e:(lt-(last/rest:Nat)*t)*num=lt*num-(last/rest:Nat)*(t*num):=by rw [Int.sub_mul,Int.mul_assoc]
  rw [e,show ((last % rest:Nat):Int)=(last:Int)-(last/rest:Nat)*(rest:Int) by rw [hd2,Int.mul_comm];omega]
  exact h.cl.sub ((Cg.refl _).mul h.ct)
 ·have hb:=h.bd
  have a1:(lt-(last/rest:Nat)*t).natAbs<=lt.natAbs+(last/rest)*t.natAbs:=by
   have:=Int.natAbs_sub_le lt ((last/rest:Nat)*t)
   rw [Int.natAbs_mul,Int.natAbs_natCast] at this
   exact this
  have a2:=Nat.mul_le_mul_right rest a1
  rw [Nat.add_mul] at a2
  have a3:t.natAbs*last=(last/rest)*t.natAbs*rest+t.natAbs*(last % rest):=by
   conv=>lhs;rw [<- hd,Nat.mul_add,<- Nat.mul_assoc,Nat.mul_comm t.natAbs rest,Nat.mul_assoc,Nat.mul_comm rest]
   rw [Nat.mul_comm t.natAbs]
  omega
theorem Euc.tle {pr:Nat}{num:Int}{last rest:Nat}{lt t:Int}(h:Euc pr num last rest lt t):t.natAbs<=pr∧lt.natAbs<=pr:=by
 have hb:=h.bd
 have h1:=Nat.mul_le_mul_left t.natAbs h.lp
 have h2:=Nat.mul_le_mul_left lt.natAbs h.pos
 omega
theorem Euc.fin {pr:Nat}{num:Int}{last rest:Nat}{lt t:Int}(h:Euc pr num last rest lt t)(h1:rest=1):Cg pr (t % pr*num) 1:=by
 have:=h.ct
 rw [h1] at this
 exact ((lX t).mul (Cg.refl num)).trans this
theorem crt {M1 pr:Nat}{D res r2 inv:Int}(hM:0<M1)(hp:0<pr)(h1:Cg M1 res D)(h2:Cg pr r2 D)(hi:Cg pr (inv*M1) 1)(h0:0<=res∧res<M1):Cg (M1*pr:Nat) (res+(r2-res)*inv % pr*M1) D∧0<=res+(r2-res)*inv % pr*M1∧res+(r2-res)*inv % pr*M1<(M1*pr:Nat):=by
 have e0:=Int.emod_nonneg ((r2-res)*inv) (show (pr:Int)≠0 by omega)
 have e1:=Int.emod_lt_of_pos ((r2-res)*inv) (show (0:Int)<pr by omega)
 have hc:=lX (m:=pr) ((r2-res)*inv)
 generalize (r2-res)*inv % pr=q at e0 e1 hc
 refine ⟨?_,?_,?_⟩
 ·have a1:Cg M1 (res+q*M1) D:=by
   have:Cg M1 (q*M1) 0:=by
    unfold Cg
    rw [Int.sub_zero]
    exact Int.dvd_mul_left ..
   have:=h1.add this
   rwa [Int.add_zero] at this
  have a2:Cg pr (res+q*M1) D:=by
   have b1:Cg pr (q*M1) (r2-res):=by
    refine (hc.mul (Cg.refl (M1:Int))).trans ?_
    rw [Int.mul_assoc]
    have:=(Cg.refl (m:=pr) (r2-res)).mul hi
    rwa [Int.mul_one] at this
   have:=(Cg.refl (m:=pr) res).add b1
   rw [show res+(r2-res)=r2 by omega] at this
   exact this.trans h2
  unfold Cg at a1 a2 hi ⊢
  obtain ⟨x,hx⟩:=a1
  rw [hx] at a2 ⊢
  have a3:(pr:Int)∣x:=by
   have c1:(pr:Int)∣inv*(M1*x):=Int.dvd_mul_of_dvd_right a2
   have c2:(pr:Int)∣(inv*M1-1)*x:=Int.dvd_mul_of_dvd_left hi
   have:=Int.dvd_sub c1 c2
   rw [show inv*(M1*x)-(inv*M1-1)*x=x by rw [Int.sub_mul,Int.mul_assoc];omega] at this
   exact this
  obtain ⟨y,rfl⟩:=a3
  refine ⟨y,?_⟩
  rw [<- Int.mul_assoc,Int.natCast_mul]
 ·have:=Int.mul_nonneg e0 (show (0:Int)<=M1 by omega)
  omega
 ·have a:=Int.mul_le_mul_of_nonneg_right (show q<=(pr:Int)-1 by omega) (show (0:Int)<=M1 by omega)
  rw [Int.sub_mul,Int.one_mul] at a
  rw [Int.natCast_mul,Int.mul_comm (M1:Int)]
  omega
theorem Cn {M:Nat}{D res bd:Int}(hm:2*bd<M)(hD : -bd<=D∧D<=bd)(h:Cg M res D)(h0:0<=res∧res<M):(if bd<res then res-M else res)=D:=by
 obtain ⟨k,hk⟩:=h
 have k0:k=0∨k=1:=by
  rcases Int.lt_or_le k 0 with z | z
  ·have:=Int.mul_le_mul_of_nonneg_left (show k<=-1 by omega) (show (0:Int)<=M by omega)
   omega
  ·rcases Int.lt_or_le 1 k with y | y
   ·have:=Int.mul_le_mul_of_nonneg_left (show 2<=k by omega) (show (0:Int)<=M by omega)
    omega
   ·omega
 rcases k0 with rfl | rfl
 ·rw [Int.mul_zero] at hk
  rw [if_neg (by omega)]
  omega
 ·rw [Int.mul_one] at hk
  rw [if_pos (by omega)]
  omega
end
end Dt
namespace Dt
theorem Bs {pr p:Nat}{rest top0 inv dN dM D:Int}(hr:0<rest∧rest<pr)(hi:Cg pr (inv*top0) 1)(hE:Cg pr dN (sg p*(top0*dM)))(hD:Cg pr (rest*dN) D) :
  (0<(if p % 2=1 then (pr:Int)-rest*top0 % pr else rest*top0 % pr)∧(if p % 2=1 then (pr:Int)-rest*top0 % pr else rest*top0 % pr)<pr)∧Cg pr ((if p % 2=1 then (pr:Int)-rest*top0 % pr else rest*top0 % pr)*dM) D:=by
 have h0:=Int.emod_nonneg (rest*top0) (show (pr:Int)≠0 by omega)
 have h1:=Int.emod_lt_of_pos (rest*top0) (show (0:Int)<pr by omega)
 have hc:=lX (m:=pr) (rest*top0)
 have hnz:rest*top0 % pr≠0:=fun z=>by
  rw [z] at hc
  have a1:=(hc.mul (Cg.refl (m:=pr) inv))
  rw [Int.zero_mul,Int.mul_assoc,Int.mul_comm top0] at a1
  have a2:=(Cg.refl (m:=pr) rest).mul hi
  rw [Int.mul_one] at a2
  have a3:=a1.trans a2
  unfold Cg at a3
  rw [Int.zero_sub] at a3
  have:=Int.le_of_dvd hr.1 (Int.dvd_neg.mp a3)
  omega
 generalize rest*top0 % pr=x at h0 h1 hc hnz
 have key:Cg pr (x*dM) (rest*(top0*dM)):=by
  rw [<- Int.mul_assoc]
  exact hc.mul (Cg.refl _)
 have hE2:=((Cg.refl (m:=pr) rest).mul hE).symm.trans hD
 by_cases hp:p % 2=1
 ·rw [if_pos hp]
  have hs:sg p = -1:=by unfold sg;rw [if_neg (by omega)]
  rw [hs] at hE2
  refine ⟨⟨by omega,by omega⟩,?_⟩
  have a1:Cg pr (((pr:Int)-x)*dM) (-(x*dM)):=by
   unfold Cg
   rw [Int.sub_mul,show (pr:Int)*dM-x*dM - -(x*dM)=pr*dM by omega]
   exact Int.dvd_mul_right ..
  refine a1.trans (key.neg.trans ?_)
  rw [show -(rest*(top0*dM))=rest*(-1*(top0*dM)) by rw [Int.neg_mul,Int.one_mul,Int.mul_neg]]
  exact hE2
 ·rw [if_neg hp]
  have hs:sg p=1:=by unfold sg;rw [if_pos (by omega)]
  rw [hs,Int.one_mul] at hE2
  exact ⟨⟨by omega,h1⟩,key.trans hE2⟩
end Dt
namespace Dt
def pL:List Nat->Nat
 | []=>1
 | x::l=>x*pL l
theorem yY (x:Nat):∀ l:List Nat,pL (l++[x])=pL l*x
 | []=>by show x*1=1*x;omega
 | y::l=>by
  show y*pL (l++[x])=y*pL l*x
  rw [yY x l,Nat.mul_assoc]
theorem Dz {R:Nat}:∀ {l:List Nat},(∀ x∈l,x<=R)->pL l<=R ^ l.length
 | [],_=>Nat.le_refl _
 | y::l,h=>by
  show y*pL l<=R ^ (l.length+1)
  rw [Nat.pow_succ,Nat.mul_comm]
  exact Nat.mul_le_mul (Dz fun x hx=>h x (List.mem_cons_of_mem _ hx)) (h y (List.mem_cons_self ..))
def rs (n:Nat)(r:List Int):Nat:=sN n fun k=>(r.getD k 0).natAbs
theorem Js (n:Nat):∀ M:List (List Int),pN M.length (fun i=>sN n fun k=>(ent M i k).natAbs)=pL (M.map (rs n))
 | []=>rfl
 | r::M=>by
  show (sN n fun k=>(ent (r::M) 0 k).natAbs)*pN M.length (fun i=>sN n fun k=>(ent (r::M) (i+1) k).natAbs)=rs n r*pL (M.map (rs n))
  rw [<- Js n M]
  rfl
theorem Et {f:Nat->Nat}:∀ {n k:Nat},k<n->f k<=sN n f
 | n+1,k,h=>by
  show f k<=sN n f+f n
  rcases Nat.lt_or_ge k n with z | z
  ·have:=Et (f:=f) z
   omega
  ·rw [show k=n by omega]
   omega
theorem Ks {n:Nat}{r:List Int}(hl:r.length=n){x:Int}(hx:x∈r):x.natAbs<=rs n r:=by
 obtain ⟨k,hk⟩:=List.getElem?_of_mem hx
 have hkl:=(List.getElem?_eq_some_iff.mp hk).1
 have:=Et (f:=fun k=>(r.getD k 0).natAbs) (n:=n) (k:=k) (by omega)
 rw [List.getD_eq_getElem?_getD,hk] at this
 exact this
theorem Kr {M:List (List Int)}{n:Nat}(h:M.length=n):(det n (ent M)).natAbs<=pL (M.map (rs n)):=by
 rw [<- Js,h]
 exact qS
def kn:List Nat:=[133,211,598,652,721,850,1282]
def pr (j:Nat):Nat:=kn.getD j 0*2 ^ 192+1
def md:Nat->Nat
 | 0=>2305843009213693951
 | j+1=>md j*pr j
theorem Ek:∀ {j:Nat},j<7->dH (pr j)
 | 0,_=>Pa
 | 1,_=>Oo
 | 2,_=>Oj
 | 3,_=>Os
 | 4,_=>Pd
 | 5,_=>Ng
 | 6,_=>Ml
 | j+7,h=>by omega
theorem Mz:∀ j,j<7->pr j<2 ^ 250∧md j % pr j≠0∧md j<2 ^ 1600∧md (j+1)<2 ^ 1800:=by decide +kernel
end Dt
namespace Dt
section
variable {n m p q i j k l:Nat}{A B T U:Mx}{f g:Nat->Int}{c:Nat->Int}
theorem uT (h:i<n):det n (cC A i fun _=>0)=0:=by
 have e:=kT (c:=1) (A:=A) (u:=fun _=>0) (v:=fun _=>0) h
 rw [show (fun k:Nat=>(0:Int)+1*0)=fun _=>0 from rfl] at e
 omega
def pI:Nat->(Nat->Int)->Int
 | 0,_=>1
 | n+1,f=>pI n f*f n
theorem uQ:∀ {n:Nat} {f:Nat->Int},pI (n+1) f=f 0*pI n fun i=>f (i+1)
 | 0,f=>by show 1*f 0=f 0*1;omega
 | n+1,f=>by
  show pI (n+1) f*f (n+1)=f 0*(pI n (fun i=>f (i+1))*f (n+1))
  rw [uQ (n:=n),Int.mul_assoc]
theorem Du:∀ {n:Nat} {f:Nat->Int},(∀ i,i<n->f i=1)->pI n f=1
 | 0,_,_=>rfl
 | n+1,f,h=>by
  show pI n f*f n=1
  rw [Du (n:=n) fun i hi=>h i (by omega),h n (by omega)]
  rfl
theorem qL:∀ {n:Nat} {U:Mx},(∀ i k,k<i->i<n->U i k=0)->det n U=pI n fun i=>U i i
 | 0,_,_=>rfl
 | n+1,U,h=>by
  rw [Nr fun i hi=>h (i+1) 0 (by omega) (by omega),qL (n:=n) fun i k h1 h2=>h (i+1) (k+1) (by omega) (by omega),uQ]
end
end Dt
namespace Dt
section
variable {n i j k l m:Nat}{A B:Mx}{f:Nat->Nat}{c:Int}
theorem Eo (hi:i<n)(hj:j<n)(hij:i≠j):det n (cC A i fun k=>A i k+c*A j k)=det n A:=by
 have e:=kT (c:=c) (A:=A) (u:=A i) (v:=A j) hi
 have z:det n (cC A i (A j))=0:=by
  rcases Nat.lt_or_ge i j with h | h
  ·refine oA (j-(i+1)) (i:=i) (A:=cC A i (A j)) (by omega) fun k _=>?_
   rw [jL,show i+1+(j-(i+1))=j by omega,iA (by omega)]
  ·refine oA (i-(j+1)) (i:=j) (A:=cC A i (A j)) (by omega) fun k _=>?_
   rw [iA (by omega),show j+1+(i-(j+1))=i by omega,jL]
 rw [z,hG (A i) fun _=>rfl,Int.mul_zero,Int.add_zero] at e
 exact e
def un (i k:Nat):Int:=if k=i then 1 else 0
def chM (n:Nat)(f:Nat->Nat):Mx:=fun i k=>un i k-if f i<n then un (f i) k else 0
def chS (n:Nat)(f:Nat->Nat)(S:Nat->Bool):Mx:=fun i k=>if S i=true then un i k else chM n f i k
theorem lW {S S':Nat->Bool}{a:Nat}(h:S a=S' a):chS n f S a k=chS n f S' a k:=by
 unfold chS
 rw [h]
theorem zJ {S:Nat->Bool}(hi:i<n)(hS:S i=false)(hf:f i<n->S (f i)=true):det n (chS n f fun a=>S a||a==i)=det n (chS n f S):=by
 by_cases h:f i<n
 ·have hne:i≠f i:=fun z=>by have:=hf h;rw [<- z,hS] at this;cases this
  rw [<- Eo (A:=chS n f S) (i:=i) (j:=f i) (c:=1) hi h hne]
  refine bO fun a k _ _=>?_
  unfold cC
  try dsimp only
  by_cases ha:a=i
  ·subst ha
   rw [if_pos rfl]
   unfold chS
   try dsimp only
   rw [if_pos (by rw [beq_self_eq_true,Bool.or_true]),if_neg (by rw [hS];exact Bool.false_ne_true),if_pos (hf h)]
   unfold chM
   rw [if_pos h]
   omega
  ·rw [if_neg ha]
   exact lW (by rw [beq_false_of_ne ha,Bool.or_false])
 ·refine bO fun a k _ _=>?_
  by_cases ha:a=i
  ·subst ha
   unfold chS
   try dsimp only
   rw [if_pos (by rw [beq_self_eq_true,Bool.or_true]),if_neg (by rw [hS];exact Bool.false_ne_true)]
   unfold chM
   rw [if_neg h,Int.sub_zero]
  ·exact lW (by rw [beq_false_of_ne ha,Bool.or_false])
theorem Kv:∀ n:Nat,det n un=1
 | n=>by
  rw [qL (n:=n) fun i k h1 _=>by unfold un;rw [if_neg (by omega)]]
  exact Du fun i _=>by unfold un;rw [if_pos rfl]
theorem La {d:Nat->Nat}(hd:∀ i,i<n->f i<n->d (f i)<d i):det n (chM n f)=1:=by
 have key:∀ m l,l<=n->det n (chS n f fun a=>decide (d a<m)||(decide (d a=m)&&decide (a<l)))=det n (chM n f):=fun m=>by
  induction m with
  | zero =>
   intro l
   induction l with
   | zero =>
    intro _
    refine bO fun a k _ _=>?_
    unfold chS
    try dsimp only
    rw [if_neg (by simp)]
   | succ l ih =>
    intro hl
    rw [<- ih (by omega)]
    by_cases h:d l=0
    ·have:=zJ (n:=n) (f:=f) (i:=l) (S:=fun a=>decide (d a<0)||(decide (d a=0)&&decide (a<l))) (by omega) (by simp) (fun hf=>by have:=hd l (by omega) hf;omega)
     rw [<- this]
     congr 2
     funext a
     by_cases ha:a=l
     ·subst ha
      simp [h]
     ·have e:decide (a<l+1)=decide (a<l):=by rw [decide_eq_decide];omega
      rw [e,beq_false_of_ne ha,Bool.or_false]
    ·congr 2
     funext a
     by_cases ha:a=l
     ·subst ha
      simp [h]
     ·have e:decide (a<l+1)=decide (a<l):=by rw [decide_eq_decide];omega
      rw [e]
  | succ m ihm =>
   intro l
   induction l with
   | zero =>
    intro _
    rw [<- ihm n (Nat.le_refl n)]
    refine bO fun a k ha _=>?_
    have e:(decide (d a<m+1)||(decide (d a=m+1)&&decide (a<0)))=(decide (d a<m)||(decide (d a=m)&&decide (a<n))):=by
     rw [decide_eq_false (show ¬ a<0 by omega),decide_eq_true ha,Bool.and_false,Bool.or_false,Bool.and_true,Bool.eq_iff_iff,Bool.or_eq_true,decide_eq_true_iff,decide_eq_true_iff,decide_eq_true_iff]
     omega
    exact lW e
   | succ l ih =>
    intro hl
    rw [<- ih (by omega)]
    by_cases h:d l=m+1
    ·have:=zJ (n:=n) (f:=f) (i:=l) (S:=fun a=>decide (d a<m+1)||(decide (d a=m+1)&&decide (a<l))) (by omega) (by simp [h]) (fun hf=>by
      have:=hd l (by omega) hf
      have:d (f l)<m+1:=by omega
      simp [this])
     rw [<- this]
     congr 2
     funext a
     by_cases ha:a=l
     ·subst ha
      simp [h]
     ·have e:decide (a<l+1)=decide (a<l):=by rw [decide_eq_decide];omega
      rw [e,beq_false_of_ne ha,Bool.or_false]
    ·congr 2
     funext a
     by_cases ha:a=l
     ·subst ha
      simp [h]
     ·have e:decide (a<l+1)=decide (a<l):=by rw [decide_eq_decide];omega
      rw [e]
 obtain ⟨m,hm⟩:∃ m,∀ i,i<n->d i<m:=by
  have:∀ N,∃ m,∀ i,i<N->d i<m:=fun N=>by
   induction N with
   | zero=>exact ⟨0,fun i h=>by omega⟩
   | succ N ih =>
    obtain ⟨m,hm⟩:=ih
    refine ⟨m+d N+1,fun i h=>?_⟩
    rcases Nat.lt_or_ge i N with z | z
    ·have:=hm i z
     omega
    ·rw [show i=N by omega]
     omega
  exact this n
 rw [<- key m 0 (Nat.zero_le _),<- Kv n]
 refine bO fun a k ha _=>?_
 unfold chS
 try dsimp only
 rw [if_pos (by simp [hm a ha])]
def itf (f:Nat->Nat):Nat->Nat->Nat
 | 0,i=>i
 | k+1,i=>f (itf f k i)
theorem Dx (hi:i<n)(hl:∀ k,k<=m->itf f (k+1) i<n)(hr:itf f (m+1) i=i)(hne:∀ k,0<k->k<=m->itf f k i≠i):det n (chM n f)=0:=by
 have key:∀ k,k<=m->det n (cC (chM n f) i fun l=>un i l-un (itf f (k+1) i) l)=det n (chM n f):=fun k=>by
  induction k with
  | zero =>
   intro _
   refine hG _ fun l=>?_
   unfold chM
   have:=hl 0 (Nat.zero_le _)
   rw [if_pos (show f i<n from this)]
   rfl
  | succ k ih =>
   intro hk
   rw [<- ih (by omega)]
   have h1:=hl k (by omega)
   have h2:=hl (k+1) hk
   have h3:=hne (k+1) (by omega) hk
   rw [<- Eo (A:=cC (chM n f) i fun l=>un i l-un (itf f (k+1) i) l) (i:=i) (j:=itf f (k+1) i) (c:=1) hi h1 (fun z=>h3 z.symm)]
   refine bO fun a l _ _=>?_
   unfold cC
   try dsimp only
   by_cases ha:a=i
   ·subst ha
    rw [if_pos rfl,if_pos rfl,if_pos rfl,if_neg h3]
    unfold chM
    rw [if_pos (show f (itf f (k+1) a)<n from h2)]
    show un a l-un (f (itf f (k+1) a)) l=_
    omega
   ·rw [if_neg ha,if_neg ha,if_neg ha]
 rw [<- key m (Nat.le_refl _),hr,show (fun l=>un i l-un i l)=fun _=>0 by funext l;omega]
 exact uT hi
end
end Dt
namespace Dt
def qD (n i w:Nat):Nat->Int:=fun k=>un i k-if w<n then un w k else 0
def chA (n:Nat)(Ws:Nat->List Nat)(c:List Nat):Mx:=fun i k=>match c[i]? with
 | some w=>qD n i w k
 | none=>((Ws i).map fun w=>qD n i w k).sum
def Au (Ws:Nat->List Nat):Nat->List (List Nat)
 | 0=>[[]]
 | m+1=>(Au Ws m).flatMap fun c=>(Ws m).map fun w=>c++[w]
section
variable {n m i:Nat}{A:Mx}{Ws:Nat->List Nat}{c:List Nat}
theorem oV:∀ {m:Nat} {c:List Nat},c∈Au Ws m->c.length=m
 | 0,c,h=>by rw [List.mem_singleton.mp h];rfl
 | m+1,c,h=>by
  obtain ⟨c',h1,h2⟩:=List.mem_flatMap.mp h
  obtain ⟨w,_,rfl⟩:=List.mem_map.mp h2
  rw [List.length_append,oV h1]
  rfl
theorem vT {g:Nat->Nat->Int}(hi:i<n):∀ l:List Nat,det n (cC A i fun k=>(l.map fun w=>g w k).sum)=(l.map fun w=>det n (cC A i (g w))).sum
 | []=>uT hi
 | w::l=>by
  have e:=uD (A:=A) (u:=g w) (v:=fun k=>(l.map fun w=>g w k).sum) hi
  rw [List.map_cons,List.sum_cons,<- vT hi l,<- e]
  rfl
theorem Gv (hm:c.length=m)(h:m<n):det n (chA n Ws c)=((Ws m).map fun w=>det n (chA n Ws (c++[w]))).sum:=by
 have e1:det n (chA n Ws c)=det n (cC (chA n Ws c) m fun k=>((Ws m).map fun w=>qD n m w k).sum):=(hG _ fun k=>by
  show _=match c[m]? with
   | some w=>qD n m w k
   | none=>((Ws m).map fun w=>qD n m w k).sum
  rw [List.getElem?_eq_none (by omega)]).symm
 rw [e1,vT h]
 congr 1
 refine List.map_congr_left fun w _=>bO fun a k _ _=>?_
 unfold cC chA
 by_cases ha:a=m
 ·subst ha
  rw [if_pos rfl,List.getElem?_append_right (by omega),hm,Nat.sub_self]
  rfl
 ·rw [if_neg ha]
  rcases Nat.lt_or_ge a m with z | z
  ·rw [List.getElem?_append_left (by omega)]
  ·rw [List.getElem?_eq_none (l:=c) (by omega),List.getElem?_eq_none (by rw [List.length_append,List.length_singleton];omega)]
theorem zR:∀ {m:Nat},m<=n->det n (chA n Ws [])=((Au Ws m).map fun c=>det n (chA n Ws c)).sum
 | 0,_=>by
  show det n (chA n Ws [])=det n (chA n Ws [])+0
  omega
 | m+1,h=>by
  rw [zR (m:=m) (by omega)]
  have key:∀ l:List (List Nat),(∀ c∈l,c.length=m)->(l.map fun c=>det n (chA n Ws c)).sum=((l.flatMap fun c=>(Ws m).map fun w=>c++[w]).map fun c=>det n (chA n Ws c)).sum:=fun l=>by
   induction l with
   | nil=>intro _;rfl
   | cons c l ih =>
    intro hl
    rw [List.map_cons,List.sum_cons,List.flatMap_cons,List.map_append,List.sum_append,ih fun c hc=>hl c (List.mem_cons_of_mem _ hc),Gv (hl c (List.mem_cons_self ..)) (by omega),List.map_map]
    rfl
  exact key _ fun c hc=>oV hc
def goF (n:Nat)(c:List Nat)(i:Nat):Nat:=if i<n then c.getD i n else i
def goN (n:Nat)(c:List Nat):Nat->Nat->Nat
 | 0,i=>i
 | k+1,i=>goF n c (goN n c k i)
def mX (n:Nat)(c:List Nat):Prop:=∀ i,i<n->¬ goN n c n i<n
theorem Eu (hc:c.length=n):det n (chA n Ws c)=det n (chM n fun i=>c.getD i n):=bO fun a k ha _=>by
 unfold chA
 rw [List.getElem?_eq_getElem (show a<c.length by omega)]
 show qD n a c[a] k=qD n a (c.getD a n) k
 rw [show c.getD a n=c[a] by rw [List.getD_eq_getElem?_getD,List.getElem?_eq_getElem (show a<c.length by omega)];rfl]
theorem zI {k:Nat}(h:¬ i<n):goN n c k i=i:=by
 induction k with
 | zero=>rfl
 | succ k ih =>
  show goF n c (goN n c k i)=i
  rw [ih]
  unfold goF
  rw [if_neg h]
theorem jT {k:Nat}:∀ l:Nat,goN n c (l+k) i=goN n c l (goN n c k i)
 | 0=>by rw [Nat.zero_add];rfl
 | l+1=>by
  rw [show l+1+k=(l+k)+1 by omega]
  show goF n c (goN n c (l+k) i)=goF n c (goN n c l (goN n c k i))
  rw [jT l]
theorem Ah {k:Nat}:goN n c (k+1) i=goN n c k (goF n c i):=by
 rw [show k+1=k+1 from rfl,jT k]
 rfl
theorem Bc (h:mX n c):det n (chM n fun i=>c.getD i n)=1:=by
 have ex:∀ i,∃ k,¬ goN n c k i<n:=fun i=>by
  by_cases hi:i<n
  ·exact ⟨n,h i hi⟩
  ·exact ⟨0,hi⟩
 have mY:∀ i,∃ k,¬ goN n c k i<n∧∀ j,j<k->goN n c j i<n:=fun i=>by
  obtain ⟨k,hk⟩:=ex i
  induction k with
  | zero=>exact ⟨0,hk,fun j hj=>by omega⟩
  | succ k ih =>
   by_cases h2:goN n c k i<n
   ·refine ⟨k+1,hk,fun j hj=>?_⟩
    refine Classical.byContradiction fun z=>?_
    have:goN n c (k-j+j) i=goN n c j i:=by rw [jT];exact zI z
    rw [show k-j+j=k by omega] at this
    rw [this] at h2
    exact z h2
   ·exact ih h2
 refine La (d:=fun i=>Classical.choose (mY i)) fun i hi hf=>?_
 obtain ⟨a1,a2⟩:=Classical.choose_spec (mY i)
 obtain ⟨b1,b2⟩:=Classical.choose_spec (mY (c.getD i n))
 have hg:goF n c i=c.getD i n:=by unfold goF;rw [if_pos hi]
 show Classical.choose (mY (c.getD i n))<Classical.choose (mY i)
 generalize Classical.choose (mY i)=ka at a1 a2 ⊢
 generalize Classical.choose (mY (c.getD i n))=kb at b1 b2 ⊢
 refine Classical.byContradiction fun z=>?_
 cases ka with
 | zero=>exact a1 hi
 | succ ka =>
  rw [Ah,hg] at a1
  exact a1 (b2 ka (by omega))
theorem Bd (h:¬ mX n c):det n (chM n fun i=>c.getD i n)=0:=by
 obtain ⟨i,hi,hn⟩:∃ i,i<n∧goN n c n i<n:=by
  refine Classical.byContradiction fun z=>h fun i hi hn=>z ⟨i,hi,hn⟩
 have lt:∀ k,k<=n->goN n c k i<n:=fun k hk=>by
  refine Classical.byContradiction fun z=>?_
  have:goN n c (n-k+k) i=goN n c k i:=by rw [jT];exact zI z
  rw [show n-k+k=n by omega] at this
  rw [this] at hn
  exact z hn
 obtain ⟨a,b,hab,hb,heq⟩:∃ a b,a<b∧b<=n∧goN n c a i=goN n c b i:=by
  refine Classical.byContradiction fun z=>?_
  have nd:((List.range (n+1)).map fun k=>goN n c k i).Nodup:=by
   refine List.pairwise_map.mpr (List.Pairwise.imp_of_mem (fun {x y} hx hy hxy he=>z ⟨x,y,hxy,?_,he⟩) List.pairwise_lt_range)
   have:=List.mem_range.mp hy
   omega
  have:=Hg.xP (ms:=List.range n) nd fun y hy=>by
   obtain ⟨k,hk,rfl⟩:=List.mem_map.mp hy
   have:=List.mem_range.mp hk
   exact List.mem_range.mpr (lt k (by omega))
  rw [List.length_map,List.length_range,List.length_range] at this
  omega
 have hj:=lt a (by omega)
 have step:∀ k,k+a<=n->goN n c k (goN n c a i)<n:=fun k hk=>by
  rw [<- jT]
  exact lt _ hk
 have hper:goN n c (b-a) (goN n c a i)=goN n c a i:=by
  rw [<- jT,show b-a+a=b by omega,heq]
 generalize goN n c a i=j at hj step hper
 obtain ⟨p,hp0,hpb,hpp,hmin⟩:∃ p,0<p∧p<=b-a∧goN n c p j=j∧∀ q,0<q->q<p->goN n c q j≠j:=by
  have:∀ N p,p<=N->0<p->p<=b-a->goN n c p j=j->∃ p,0<p∧p<=b-a∧goN n c p j=j∧∀ q,0<q->q<p->goN n c q j≠j:=fun N=>by
   induction N with
   | zero=>intro p h1 h2;omega
   | succ N ih =>
    intro p h1 h2 h3 h4
    by_cases hq:∃ q,0<q∧q<p∧goN n c q j=j
    ·obtain ⟨q,q1,q2,q3⟩:=hq
     exact ih q (by omega) q1 (by omega) q3
    ·exact ⟨p,h2,h3,h4,fun q q1 q2 q3=>hq ⟨q,q1,q2,q3⟩⟩
  exact this (b-a) (b-a) (Nat.le_refl _) (by omega) (Nat.le_refl _) hper
 have eq:∀ k,k<=p->itf (fun i=>c.getD i n) k j=goN n c k j:=fun k=>by
  induction k with
  | zero=>intro _;rfl
  | succ k ih =>
   intro hk
   show c.getD (itf (fun i=>c.getD i n) k j) n=goF n c (goN n c k j)
   rw [ih (by omega)]
   unfold goF
   rw [if_pos (step k (by omega))]
 refine Dx (i:=j) (m:=p-1) hj (fun k hk=>?_) ?_ fun k h1 h2=>?_
 ·rw [eq (k+1) (by omega)]
  exact step (k+1) (by omega)
 ·rw [show p-1+1=p by omega,eq p (Nat.le_refl _),hpp]
 ·rw [eq k (by omega)]
  exact hmin k h1 (by omega)
theorem Ar [DecidablePred (mX n)]:det n (chA n Ws [])=(((Au Ws n).filter fun c=>decide (mX n c)).length:Nat):=by
 rw [zR (Nat.le_refl n)]
 have key:∀ l:List (List Nat),(∀ c∈l,c.length=n)->(l.map fun c=>det n (chA n Ws c)).sum=((l.filter fun c=>decide (mX n c)).length:Nat):=fun l=>by
  induction l with
  | nil=>intro _;rfl
  | cons c l ih =>
   intro hl
   rw [List.map_cons,List.sum_cons,ih fun c hc=>hl c (List.mem_cons_of_mem _ hc),Eu (hl c (List.mem_cons_self ..)),List.filter_cons]
   by_cases hc:mX n c
   ·rw [Bc hc,if_pos (decide_eq_true hc),List.length_cons]
    omega
   ·rw [Bd hc,if_neg (by rw [decide_eq_false hc];exact Bool.false_ne_true)]
    omega
 exact key _ fun c hc=>oV hc
end
end Dt
namespace Dt
def cE (words:List (List Nat))(o:List Nat):Int:=((words.countP fun w=>decide (w.drop 1=o):Nat):Int)
def rI (texts:List (List Nat))(t:List Nat)(words:List (List Nat)):List Int:=texts.map fun o=>if o=t then ((words.length:Nat):Int)-cE words t else-cE words o
def wS (ls:List (List Nat))(g:List Nat->List (List Nat))(i:Nat):List Nat:=(g (ls.getD i [])).map fun w=>ls.idxOf (w.drop 1)
theorem Iw {w:List Nat}{ws:List (List Nat)}{o:List Nat}:cE (w::ws) o=cE ws o+if w.drop 1=o then 1 else 0:=by
 unfold cE
 rw [List.countP_cons]
 by_cases h:w.drop 1=o
 ·rw [if_pos (decide_eq_true h),if_pos h];omega
 ·rw [if_neg (fun z=>h (of_decide_eq_true z)),if_neg h];omega
theorem uN {ls:List (List Nat)}(hnd:ls.Nodup){i k:Nat}(hk:k<ls.length):∀ ws:List (List Nat),((ws.map fun w=>ls.idxOf (w.drop 1)).map fun w=>qD ls.length i w k).sum=(if i=k then ((ws.length:Nat):Int) else 0)-cE ws ls[k]
 | []=>by
  show (0:Int)=_-((0:Nat):Int)
  split <;> simp
 | w::ws=>by
  rw [List.map_cons,List.map_cons,List.sum_cons,uN hnd hk ws,Iw]
  have e:(if ls.idxOf (w.drop 1)<ls.length then un (ls.idxOf (w.drop 1)) k else 0)=if w.drop 1=ls[k] then (1:Int) else 0:=by
   by_cases h:w.drop 1=ls[k]
   ·rw [if_pos h,h,hnd.idxOf_getElem,if_pos hk]
    simp [un]
   ·rw [if_neg h]
    split
    ·rename_i hlt
     have hne:ls.idxOf (w.drop 1)≠k:=fun z=>h (by
      have:=List.getElem_idxOf hlt
      subst z
      exact this.symm)
     unfold un
     rw [if_neg (Ne.symm hne)]
    ·rfl
  show un i k-(if ls.idxOf (w.drop 1)<ls.length then un (ls.idxOf (w.drop 1)) k else 0)+_=_
  rw [e,List.length_cons]
  by_cases hik:i=k
  ·rw [if_pos hik,if_pos hik,hik]
   simp [un]
   omega
  ·rw [if_neg hik,if_neg hik]
   simp [un,hik,Ne.symm hik]
   omega
theorem Db {ls:List (List Nat)}(hnd:ls.Nodup)(g:List Nat->List (List Nat)):det ls.length (ent (ls.map fun t=>rI ls t (g t)))=det ls.length (chA ls.length (wS ls g) []):=bO fun i k hi hk=>by
 show ((ls.map fun t=>rI ls t (g t)).getD i []).getD k 0=((wS ls g i).map fun w=>qD ls.length i w k).sum
 unfold wS
 rw [uN hnd hk,List.getD_eq_getElem?_getD,List.getD_eq_getElem?_getD,List.getElem?_map,List.getElem?_eq_getElem hi]
 show ((rI ls ls[i] (g ls[i]))[k]?).getD 0=_
 unfold rI
 rw [List.getElem?_map,List.getElem?_eq_getElem hk,List.getD_eq_getElem?_getD,List.getElem?_eq_getElem hi]
 show (if ls[k]=ls[i] then _ else _)=(if i=k then (((g ls[i]).length:Nat):Int) else 0)-cE (g ls[i]) ls[k]
 by_cases hik:i=k
 ·subst hik
  rw [if_pos rfl,if_pos rfl]
 ·rw [if_neg hik,if_neg (fun z=>hik (by have a:=hnd.idxOf_getElem i hi;have b:=hnd.idxOf_getElem k hk;rw [z,a] at b;exact b)),Int.zero_sub]
end Dt
namespace Dt
def sT (ls:List (List Nat))(cw:List Nat->List Nat)(t:List Nat):List Nat:=if t∈ls then (cw t).drop 1 else t
def iT (ls:List (List Nat))(cw:List Nat->List Nat):Nat->List Nat->List Nat
 | 0,t=>t
 | k+1,t=>sT ls cw (iT ls cw k t)
def plc (ls:List (List Nat))(cw:List Nat->List Nat):List Nat:=ls.map fun t=>ls.idxOf ((cw t).drop 1)
theorem wH {ls:List (List Nat)}(cw:List Nat->List Nat){t:List Nat}:∀ k:Nat,goN ls.length (plc ls cw) k (ls.idxOf t)=ls.idxOf (iT ls cw k t)
 | 0=>rfl
 | k+1=>by
  show goF ls.length (plc ls cw) (goN ls.length (plc ls cw) k (ls.idxOf t))=ls.idxOf (sT ls cw (iT ls cw k t))
  rw [wH cw k]
  unfold goF sT
  by_cases h:iT ls cw k t∈ls
  ·have hl:ls.idxOf (iT ls cw k t)<ls.length:=List.idxOf_lt_length_of_mem h
   rw [if_pos hl,if_pos h]
   unfold plc
   rw [List.getD_eq_getElem?_getD,List.getElem?_map,List.getElem?_eq_getElem hl,List.getElem_idxOf hl]
   rfl
  ·have hl:¬ ls.idxOf (iT ls cw k t)<ls.length:=fun z=>h (List.idxOf_lt_length_iff.mp z)
   rw [if_neg hl,if_neg h]
theorem Aq {ls:List (List Nat)}(hnd:ls.Nodup)(cw:List Nat->List Nat):mX ls.length (plc ls cw)↔(ls.all fun t=>decide (iT ls cw ls.length t∉ls))=true:=by
 rw [List.all_eq_true]
 constructor
 ·intro h t ht
  refine decide_eq_true fun z=>h (ls.idxOf t) (List.idxOf_lt_length_of_mem ht) ?_
  rw [wH]
  exact List.idxOf_lt_length_of_mem z
 ·intro h i hi z
  have e:=wH (ls:=ls) cw (t:=ls[i]) ls.length
  rw [hnd.idxOf_getElem i hi] at e
  rw [e] at z
  exact of_decide_eq_true (h ls[i] (List.getElem_mem hi)) (List.idxOf_lt_length_iff.mp z)
end Dt
namespace Dt
inductive R2 {α β:Type}(R:α->β->Prop):List α->List β->Prop
 | nil:R2 R [] []
 | cons {a:α} {b:β} {as:List α} {bs:List β}:R a b->R2 R as bs->R2 R (a::as) (b::bs)
section
variable {α β:Type}{R R':α->β->Prop}{as:List α}{bs:List β}
theorem R2.len (h:R2 R as bs):as.length=bs.length:=by
 induction h with
 | nil=>rfl
 | cons _ _ ih=>rw [List.length_cons,List.length_cons,ih]
theorem R2.mono (h:R2 R as bs)(f:∀ a b,a∈as->R a b->R' a b):R2 R' as bs:=by
 induction h with
 | nil=>exact .nil
 | cons r _ ih=>exact .cons (f _ _ (List.mem_cons_self ..) r) (ih fun a b ha=>f a b (List.mem_cons_of_mem _ ha))
theorem R2.get (h:R2 R as bs):∀ {i:Nat} {b:β},bs[i]?=some b->∃ a,as[i]?=some a∧R a b:=by
 induction h with
 | nil=>intro i b e;simp at e
 | cons r _ ih =>
  intro i b e
  cases i with
  | zero=>rw [List.getElem?_cons_zero] at e;cases e;exact ⟨_,rfl,r⟩
  | succ i=>rw [List.getElem?_cons_succ] at e;rw [List.getElem?_cons_succ];exact ih e
theorem R2.snoc {a:α}{b:β}(h:R2 R as bs)(r:R a b):R2 R (as++[a]) (bs++[b]):=by
 induction h with
 | nil=>exact .cons r .nil
 | cons r' _ ih=>exact .cons r' ih
end
abbrev W:=List Nat
def eA (f:W->W)(t w:W):W->W:=fun x=>if x=t then w else f x
theorem As {f:W->W}{a b x y:W}(h:a≠b):eA (eA f a x) b y=eA (eA f b y) a x:=by
 funext z
 unfold eA
 by_cases h1:z=b
 ·rw [if_pos h1,if_neg (fun e=>h (e.symm.trans h1)),if_pos h1]
 ·rw [if_neg h1,if_neg h1]
theorem mO {f:W->W}{t w:W}:eA f t w t=w:=by unfold eA;rw [if_pos rfl]
theorem sW {f:W->W}{t w x:W}(h:x≠t):eA f t w x=f x:=by unfold eA;rw [if_neg h]
def chs (g:W->List W):List W->List (W->W)
 | []=>[fun _=>[]]
 | t::ls=>(chs g ls).flatMap fun f=>(g t).map fun w=>eA f t w
theorem zK {g:W->List W}:∀ {ls:List W} {f:W->W},f∈chs g ls->∀ t∈ls,f t∈g t
 | t::ls,f,h,x,hx=>by
  obtain ⟨f',h1,h2⟩:=List.mem_flatMap.mp h
  obtain ⟨w,hw,rfl⟩:=List.mem_map.mp h2
  by_cases e:x=t
  ·subst e;rw [mO];exact hw
  ·rw [sW e];exact zK h1 x ((List.mem_cons.mp hx).resolve_left e)
theorem tL {α β γ:Type}{F:α->β->γ}(as:List α)(bs:List β):(as.flatMap fun a=>bs.map fun b=>F a b).Perm (bs.flatMap fun b=>as.map fun a=>F a b):=by
 induction as with
 | nil=>simp
 | cons a as ih =>
  rw [List.flatMap_cons]
  refine (List.Perm.append_left _ ih).trans ?_
  clear ih
  induction bs with
  | nil=>simp
  | cons b bs ih2 =>
   rw [List.flatMap_cons,List.flatMap_cons,List.map_cons,List.map_cons,List.cons_append,List.cons_append]
   refine List.Perm.cons _ ?_
   refine List.Perm.trans ?_ (List.Perm.append_left _ ih2)
   rw [<- List.append_assoc,<- List.append_assoc]
   exact List.Perm.append_right _ List.perm_append_comm
theorem gI {α β:Type}{F G:α->List β}:∀ {l:List α},(∀ a∈l,(F a).Perm (G a))->(l.flatMap F).Perm (l.flatMap G)
 | [],_=>by simp
 | a::l,h=>by
  rw [List.flatMap_cons,List.flatMap_cons]
  exact (h a (List.mem_cons_self ..)).append (gI fun b hb=>h b (List.mem_cons_of_mem _ hb))
theorem Gn {g:W->List W}{ls ms:List W}(h:ls.Perm ms):ls.Nodup->(chs g ls).Perm (chs g ms):=by
 induction h with
 | nil=>intro _;exact .refl _
 | cons t _ ih=>intro hn;exact (ih (List.nodup_cons.mp hn).2).flatMap_right _
 | swap a b l =>
  intro hn
  have hab:b≠a:=fun e=>(List.nodup_cons.mp hn).1 (e▸List.mem_cons_self ..)
  show (((chs g l).flatMap fun f=>(g a).map fun w=>eA f a w).flatMap fun f=>(g b).map fun w=>eA f b w).Perm (((chs g l).flatMap fun f=>(g b).map fun w=>eA f b w).flatMap fun f=>(g a).map fun w=>eA f a w)
  rw [List.flatMap_assoc,List.flatMap_assoc]
  refine gI fun f _=>?_
  rw [List.flatMap_map,List.flatMap_map]
  have e:(fun x=>(g a).map fun y=>eA (eA f b x) a y)=fun x=>(g a).map fun y=>eA (eA f a y) b x:=by
   funext x;congr 1;funext y;exact As hab
  have e2:=tL (F:=fun x y=>eA (eA f a x) b y) (g a) (g b)
  refine e2.trans ?_
  rw [e]
 | trans h1 _ ih1 ih2=>intro hn;exact (ih1 hn).trans (ih2 (h1.nodup_iff.mp hn))
def cmT (ls:List W)(cw:W->W):Bool:=ls.all fun t=>decide (iT ls cw ls.length t∉ls)
theorem rV {ls ms:List W}(h:∀ t,t∈ls↔t∈ms){cw:W->W}{t:W}:∀ k,iT ls cw k t=iT ms cw k t
 | 0=>rfl
 | k+1=>by
  show sT ls cw (iT ls cw k t)=sT ms cw (iT ms cw k t)
  rw [rV h k]
  unfold sT
  by_cases e:iT ms cw k t∈ms
  ·rw [if_pos e,if_pos ((h _).mpr e)]
  ·rw [if_neg e,if_neg (fun z=>e ((h _).mp z))]
theorem oS {ls ms:List W}(h:ls.Perm ms)(cw:W->W):cmT ls cw=cmT ms cw:=by
 unfold cmT
 rw [Bool.eq_iff_iff,List.all_eq_true,List.all_eq_true]
 have hm:∀ t,t∈ls↔t∈ms:=fun t=>h.mem_iff
 constructor
 ·intro q t ht
  have:=of_decide_eq_true (q t ((hm t).mpr ht))
  rw [rV hm,h.length_eq] at this
  exact decide_eq_true fun z=>this ((hm _).mpr z)
 ·intro q t ht
  have:=of_decide_eq_true (q t ((hm t).mp ht))
  rw [<- rV hm,<- h.length_eq] at this
  exact decide_eq_true fun z=>this ((hm _).mp z)
def nC (ls:List W)(g:W->List W):Nat:=((chs g ls).filter (cmT ls)).length
theorem tF {ls ms:List W}(h:ls.Perm ms)(hn:ls.Nodup)(g:W->List W):nC ls g=nC ms g:=by
 unfold nC
 rw [((Gn (g:=g) h hn).filter (cmT ls)).length_eq]
 congr 2
 funext f
 exact oS h f
theorem qW {g g':W->List W}:∀ {ls:List W},(∀ t∈ls,g t=g' t)->chs g ls=chs g' ls
 | [],_=>rfl
 | t::ls,h=>by
  show (chs g ls).flatMap _=(chs g' ls).flatMap _
  rw [qW fun x hx=>h x (List.mem_cons_of_mem _ hx),h t (List.mem_cons_self ..)]
theorem vA {ls:List W}{g g':W->List W}(h:∀ t∈ls,g t=g' t):nC ls g=nC ls g':=by unfold nC;rw [qW h]
theorem vJ {ls:List W}(hn:ls.Nodup){g:W->List W}:∀ m,m<=ls.length->Au (wS ls g) m=(chs g (ls.take m).reverse).map fun f=>(ls.take m).map fun t=>ls.idxOf ((f t).drop 1)
 | 0,_=>by rw [List.take_zero];rfl
 | m+1,h=>by
  have hm:m<ls.length:=h
  have ht:ls.take (m+1)=ls.take m++[ls[m]]:=by rw [List.take_add_one,List.getElem?_eq_getElem hm];rfl
  rw [ht,List.reverse_append]
  show (Au (wS ls g) m).flatMap _=((chs g (ls.take m).reverse).flatMap fun f=>(g ls[m]).map fun w=>eA f ls[m] w).map _
  rw [vJ hn m (by omega),List.flatMap_map,List.map_flatMap]
  have hnot:ls[m]∉ls.take m:=fun z=>by
   have nd:(ls.take m++[ls[m]]).Nodup:=ht▸hn.sublist (List.take_sublist (m+1) ls)
   exact (List.nodup_append.mp nd).2.2 _ z _ (List.mem_singleton.mpr rfl) rfl
  congr 1
  funext f
  unfold wS
  rw [List.getD_eq_getElem?_getD,List.getElem?_eq_getElem hm,List.map_map,List.map_map]
  refine List.map_congr_left fun w _=>?_
  show (ls.take m).map _++[_]=(ls.take m++[ls[m]]).map _
  rw [List.map_append,List.map_singleton]
  congr 1
  ·refine List.map_congr_left fun t ht=>?_
   show _=ls.idxOf ((eA f ls[m] w t).drop 1)
   rw [sW (fun e=>hnot (by rw [<- e];exact ht))]
  ·show _=[ls.idxOf ((eA f ls[m] w ls[m]).drop 1)]
   rw [mO]
theorem Lh {ls:List W}(hn:ls.Nodup)(g:W->List W):det ls.length (ent (ls.map fun t=>rI ls t (g t)))=((nC ls g:Nat):Int):=by
 classical
 rw [Db hn,Ar,vJ hn ls.length (Nat.le_refl _),List.take_length]
 rw [tF (List.reverse_perm ls).symm hn g]
 unfold nC
 rw [List.filter_map,List.length_map]
 congr 3
 funext f
 rw [oS (List.reverse_perm ls)]
 show decide (mX ls.length (plc ls f))=cmT ls f
 rw [Bool.eq_iff_iff,decide_eq_true_iff]
 exact Aq hn f
theorem oH {g:W->List W}:∀ ls:List W,(chs g ls).length<=2 ^ (ls.map fun t=>(g t).length).sum
 | []=>Nat.le_refl 1
 | t::ls=>by
  have ih:=oH (g:=g) ls
  have e:(chs g (t::ls)).length=(chs g ls).length*(g t).length:=by
   show ((chs g ls).flatMap fun f=>(g t).map fun w=>eA f t w).length=_
   generalize chs g ls=l
   induction l with
   | nil=>simp
   | cons f l ihl=>rw [List.flatMap_cons,List.length_append,List.length_map,ihl,List.length_cons,Nat.add_mul,Nat.one_mul,Nat.add_comm]
  rw [e,List.map_cons,List.sum_cons,Nat.pow_add,Nat.mul_comm]
  exact Nat.mul_le_mul (Nat.le_of_lt Nat.lt_two_pow_self) ih
end Dt
namespace L2
open PySem PySem.Spec PyProof.Rows
def tx (l:List Nat):Str:=⟨l.toArray⟩
abbrev T (l:List Nat):V:=.str (tx l)
theorem fS (l:List Nat):(tx l).length=l.length:=by simp [tx,Str.length]
theorem eJ (l:List Nat):(tx l).cps.toList=l:=by simp [tx]
theorem iL (x:Str):tx x.cps.toList=x:=by cases x;simp [tx]
theorem fU {a b:List Nat}(h:tx a=tx b):a=b:=by
 have e:=congrArg (fun x:Str=>x.cps.toList) h
 simpa [tx] using e
theorem Nu {a b:List Nat}(h:T a=T b):a=b:=fU (V.str.inj h)
theorem Jo {a b:List Nat}:decide (T a=T b)=decide (a=b):=by
 rw [Bool.eq_iff_iff,decide_eq_true_iff,decide_eq_true_iff]
 exact ⟨Nu,fun h=>by rw [h]⟩
theorem Lv (a b:List Nat):tx a++tx b=tx (a++b):=by
 rw [<- iL (tx a++tx b),PySem.W.KT.app_list,eJ,eJ]
section
variable {X:Cx}
theorem jF:OpR X (binaryOp .Add) (fun x y H Q=>∃ a,x=T a∧∃ b,y=T b∧a.length+b.length<=sizeLine∧Q (T (a++b)) H):=by
 intro pins s σ H x y v u Q I rx ry h
 obtain ⟨a,e1,b,e2,hz,q⟩:=h
 exact xM pins s σ H x y v u Q I rx ry ⟨tx a,tx b,e1,e2,by rw [fS,fS];exact hz,by rw [Lv];exact q⟩
theorem zQ:OpR X (compareOp .Eq) (fun x y H Q=>∃ a,x=T a∧∃ b,y=T b∧Q (.bl (decide (a=b))) H):=by
 intro pins s σ H x y v u Q I rx ry h
 obtain ⟨a,rfl,b,rfl,q⟩:=h
 exact Jp pins s σ H _ _ v u Q I rx ry ⟨rfl,by rw [Jo];exact q⟩
theorem nW:OpR X (compareOp .NotEq) (fun x y H Q=>∃ a,x=T a∧∃ b,y=T b∧Q (.bl (!decide (a=b))) H):=by
 intro pins s σ H x y v u Q I rx ry h
 obtain ⟨a,rfl,b,rfl,q⟩:=h
 exact Jv pins s σ H _ _ v u Q I rx ry ⟨rfl,by rw [Jo];exact q⟩
theorem eI:OpR X (compareOp .Eq) (fun x y H Q=>∃ a,x = .int a∧∃ b,y = .int b∧Q (.bl (decide (a=b))) H):=by
 intro pins s σ H x y v u Q I rx ry h
 obtain ⟨a,rfl,b,rfl,q⟩:=h
 exact Jp pins s σ H _ _ v u Q I rx ry ⟨rfl,by rw [nV,Bool.beq_eq_decide_eq];exact q⟩
theorem nY:OpR X (compareOp .NotEq) (fun x y H Q=>∃ a,x = .int a∧∃ b,y = .int b∧Q (.bl (!decide (a=b))) H):=by
 intro pins s σ H x y v u Q I rx ry h
 obtain ⟨a,rfl,b,rfl,q⟩:=h
 exact Jv pins s σ H _ _ v u Q I rx ry ⟨rfl,by rw [nV,Bool.beq_eq_decide_eq];exact q⟩
def gG (l:List Nat)(lo hi:Option Int):List Nat:=(l.drop (HT.sIx l.length 0 lo)).take (HT.sIx l.length l.length hi-HT.sIx l.length 0 lo)
theorem lC (v:Option Int)(n d:Nat):(match v with | none=>(d:Int) | some i=>max 0 (min (if i<0 then i+(n:Int) else i) (n:Int)))=((HT.sIx n d v:Nat):Int):=by
 cases v with
 | none=>rfl
 | some i =>
  show max 0 (min (if i<0 then i+(n:Int) else i) (n:Int))=(((if i<0 then (i+(n:Int)).toNat else min i.toNat n):Nat):Int)
  by_cases hi:i<0
  ·simp only [if_pos hi];omega
  ·simp only [if_neg hi];omega
theorem vQ (lo hi:Option Int)(n:Nat):Builtin.Str.strSliceIndices lo hi 1 n=Builtin.Str.strSliceIndices (some ((HT.sIx n 0 lo:Nat):Int)) (some ((HT.sIx n n hi:Nat):Int)) 1 n:=by
 have h1:=HT.tJ n 0 (Nat.zero_le _) lo
 have h2:=HT.tJ n n (Nat.le_refl _) hi
 have c1:=lC lo n 0
 have c2:=lC hi n n
 have d1:=lC (some ((HT.sIx n 0 lo:Nat):Int)) n 0
 have d2:=lC (some ((HT.sIx n n hi:Nat):Int)) n n
 rw [HT.fE,Nat.min_eq_left h1] at d1
 rw [HT.fE,Nat.min_eq_left h2] at d2
 unfold Builtin.Str.strSliceIndices
 simp only [show ((1:Int)>0) from by decide,if_true]
 have g:∀ a b c d:Int,a=c->b=d->sliceRange a b 1=sliceRange c d 1:=fun a b c d h1 h2=>by rw [h1,h2]
 exact g _ _ _ _ (c1.trans d1.symm) (c2.trans d2.symm)
theorem Cz (l:List Nat)(lo hi:Option Int):Txt.slice (tx l) lo hi=tx (gG l lo hi):=by
 have h1:=HT.tJ l.length 0 (Nat.zero_le _) lo
 have h2:=HT.tJ l.length l.length (Nat.le_refl _) hi
 unfold Txt.slice
 rw [fS,vQ]
 by_cases hab:HT.sIx l.length 0 lo<=HT.sIx l.length l.length hi
 ·have e:=StrLaws.sliceText_nat (tx l) hab (by rw [fS];exact h2)
  unfold StrLaws.sliceText at e
  rw [fS,eJ] at e
  exact e
 ·have e0:Builtin.Str.strSliceIndices (some ((HT.sIx l.length 0 lo:Nat):Int)) (some ((HT.sIx l.length l.length hi:Nat):Int)) 1 l.length=[]:=by
   unfold Builtin.Str.strSliceIndices sliceRange
   have n1:¬ (((HT.sIx l.length 0 lo:Nat):Int)<0):=by omega
   have n2:¬ (((HT.sIx l.length l.length hi:Nat):Int)<0):=by omega
   simp only [show ((1:Int)>0) from by decide,if_true,if_neg n1,if_neg n2]
   have n3:¬ (max (0:Int) (min ((HT.sIx l.length 0 lo:Nat):Int) (l.length:Int))<max (0:Int) (min ((HT.sIx l.length l.length hi:Nat):Int) (l.length:Int))):=by omega
   simp [n3]
  have e1:gG l lo hi=[]:=by
   unfold gG
   rw [show HT.sIx l.length l.length hi-HT.sIx l.length 0 lo=0 by omega,List.take_zero]
  rw [e0,e1]
  cases l with
  | nil=>rfl
  | cons c r=>rfl
theorem kJ:SlR X (fun x lo hi H Q=>∃ a,x=T a∧a.length<=sizeLine∧Q (T (gG a lo hi)) H):=by
 intro pins s σ H x v vl vu lo hi sl Q I rx hs pl pu h
 obtain ⟨a,rfl,hz,q⟩:=h
 obtain ⟨t,rfl⟩:=rx
 obtain ⟨l,hl1,hl2⟩:∃ l:Option (Int×Tok),partValue l=vl∧l.map (·.1)=lo:=by
  cases pl with
  | none=>exact ⟨none,rfl,rfl⟩
  | int i t=>exact ⟨some (i,t),rfl,rfl⟩
 obtain ⟨u,hu1,hu2⟩:∃ u:Option (Int×Tok),partValue u=vu∧u.map (·.1)=hi:=by
  cases pu with
  | none=>exact ⟨none,rfl,rfl⟩
  | int i t=>exact ⟨some (i,t),rfl,rfl⟩
 refine ⟨"str",_,F.slot_str_getitem.lookup,typeIs_str _ _ _,?_⟩
 have hsl:s.heap.IsSlice sl l u none:=by
  obtain ⟨o,ho,hc,hd⟩:=hs
  exact ⟨o,ho,hc,by rw [hl1,hu1];exact hd⟩
 refine wpAny_getItem_str_slice hsl rfl ?_
 have key:(if ((1:Int)==1&&(Builtin.Str.strSliceIndices lo hi 1 (tx a).length).length==(tx a).length)=true then (tx a) else ⟨((Builtin.Str.strSliceIndices lo hi 1 (tx a).length).filterMap ((tx a).cps[·]?)).toArray⟩)=tx (gG a lo hi):=Cz a lo hi
 unfold sliceMade slicePicked
 rw [hl2,hu2]
 refine post_val_or_str ⟨?_,fun t' k=>?_⟩
 ·show (Txt.slice (tx a) lo hi).length<=sizeLine
  exact Nat.le_trans (Txt.slice_le _ _ _) (by rw [fS];exact hz)
 ·refine ⟨T (gG a lo hi),H,I.tok _,⟨t',?_⟩,q⟩
  exact congrArg (fun z=>Value.str z t') key
theorem xG (n:Nat)(l:List Nat):(Wd.rep n l).length=n*l.length:=Wd.yZ n l
theorem Av (n:Nat)(c:Array Nat):∀ acc:Array Nat,(List.replicate n c).foldl (· ++ ·) acc=acc++(Wd.rep n c.toList).toArray:=by
 induction n with
 | zero=>intro acc;simp [Wd.rep]
 | succ n ih =>
  intro acc
  rw [List.replicate_succ,List.foldl_cons,ih]
  rw [Wd.oF,Array.append_assoc]
  congr 1
  apply Array.ext'
  simp
theorem Lz (n:Nat)(l:List Nat):Txt.mul (tx l) (n:Int)=tx (Wd.rep n l):=by
 unfold Txt.mul
 by_cases h1:(n:Int)<1
 ·have e:n=0:=by omega
  subst e
  rw [if_pos h1]
  rfl
 ·rw [if_neg h1]
  by_cases h2:((n:Int)==1||(tx l).length==0)=true
  ·rw [if_pos h2]
   rw [Bool.or_eq_true,beq_iff_eq,beq_iff_eq,fS] at h2
   rcases h2 with h2 | h2
   ·have e:n=1:=by omega
    subst e
    rw [Wd.Io]
   ·have e:l=[]:=List.length_eq_zero_iff.mp h2
    subst e
    have:Wd.rep n []=[]:=List.length_eq_zero_iff.mp (by rw [xG];simp)
    rw [this]
  ·rw [if_neg h2,Int.toNat_natCast,Av]
   simp [tx]
theorem vN:OpR X (binaryOp .Mult) (fun x y H Q=>∃ a,x=T a∧∃ n:Nat,y = .int n∧(n<=sizeLine∧n*a.length<=sizeLine)∧Q (T (Wd.rep n a)) H):=by
 intro pins s σ H x y v u Q I rx ry h
 obtain ⟨a,rfl,n,rfl,⟨h1,h2⟩,q⟩:=h
 obtain ⟨t,rfl⟩:=rx
 obtain ⟨t',rfl⟩:=ry
 have hs:sizeLine=16777216:=sizeLine_eq
 refine SB.mul ⟨?_,?_,?_⟩ fun t' k=>⟨T (Wd.rep n a),H,I.tok _,⟨t',by rw [Lz]⟩,q⟩
 ·have e1:decide ((n:Int) < -(2 ^ 63:Int))=false:=decide_eq_false (by omega)
  have e2:decide ((n:Int)≥2 ^ 63)=false:=decide_eq_false (by omega)
  rw [e1,e2]
  rfl
 ·intro hn _
  rw [fS]
  have h3:n*a.length<=16777216:=by omega
  intro hc
  have h4:((n*a.length:Nat):Int)<=16777216:=by omega
  have hn':(0:Int)<n:=by omega
  have h5:((2 ^ 63-1)/(n:Int))*n<=2 ^ 63-1:=Int.ediv_mul_le _ (by omega)
  have h6:(2 ^ 63-1:Int)<((2 ^ 63-1)/(n:Int)+1)*n:=Int.lt_ediv_add_one_mul_self _ hn'
  have h7:((2 ^ 63-1)/(n:Int)+1)*n<=(a.length:Int)*n:=Int.mul_le_mul_of_nonneg_right (by omega) (by omega)
  have h8:((n*a.length:Nat):Int)=(a.length:Int)*n:=by rw [Int.natCast_mul,Int.mul_comm]
  omega
 ·intro hn _
  rw [fS,Int.toNat_natCast,Nat.mul_comm]
  unfold Builtin.Str.tooLong
  exact decide_eq_false (by omega)
theorem qT:∀ {ls:List (List Nat)} {us:List Value},bX (ls.map T) us->StrsAre us (ls.map tx)
 | [],us,r=>by
  cases r
  exact .nil
 | l::ls,us,r=>by
  rw [List.map_cons] at r
  cases r with
  | cons r1 r2 =>
   obtain ⟨t,rfl⟩:=r1
   exact .cons _ _ (qT r2)
end
end L2
namespace L2
theorem gU {w:List Nat}{k:Nat}(h:k<=w.length):gG w (some (k:Int)) none=w.drop k:=by
 unfold gG
 rw [HT.fE,HT.fA,Nat.min_eq_left h]
 exact List.take_of_length_le (by rw [List.length_drop];omega)
theorem Hc {w:List Nat}{k:Nat}(h:k<=w.length):gG w none (some (k:Int))=w.take k:=by
 unfold gG
 rw [HT.fE,HT.fA,Nat.min_eq_left h,List.drop_zero,Nat.sub_zero]
end L2
namespace L2
open PySem PySem.Spec PyProof.Rows
set_option genInjectivity false in
structure cU (N N':List Str)(sc scope:Scope)(x:Str):Prop where
 kind:scope.kind = .function
 cell:∀ y∈scope.names,y.2≠.cell
 names:∀ y∈scope.names,y.2 = .local->scope.names.lookup y.1=some .local
 var:scope.names.lookup x=some .local
 ok:∀ y∈scope.names,y.2 = .free->sc.names.lookup y.1=some .cell∨sc.names.lookup y.1=some .free
 hd:N'[0]?=some x
 len:N'.length=N.length+1
 sub:∀ i,i<N.length->N'[i+1]?=N[i]?∨(N'[i+1]?.map fun y=>scope.names.lookup y)=some none
 noe:scope.names.lookup ("" : Str)=none
 nol:∀ y∈N'.tail,scope.names.lookup y≠some .local
 nd:N'.Nodup
def cN (cells:List (Str×Addr)):List (Str×NameKind)->List (Str×Addr)->List (Str×Addr)
 | [],acc=>acc
 | (n,k)::r,acc=>cN cells r (if k == .free then (n,(cells.lookup n).getD 0)::acc else acc)
theorem iJ {cells:List (Str×Addr)}{y:Str}{c:Addr}:∀ (names:List (Str×NameKind)) (acc:List (Str×Addr)),(∀ z∈names,z.2 = .free->∃ c,cells.lookup z.1=some c) ->
  (acc.lookup y=some c->cells.lookup y=some c)->(cN cells names acc).lookup y=some c->cells.lookup y=some c
 | [],acc,_,ha,h=>ha h
 | (n,k)::r,acc,hz,ha,h=>by
  unfold cN at h
  refine iJ r _ (fun z hm=>hz z (List.mem_cons_of_mem _ hm)) (fun q=>?_) h
  split at q
  ·rename_i hk
   obtain ⟨c',e⟩:=hz (n,k) List.mem_cons_self (by simpa using hk)
   rw [List.lookup_cons] at q
   split at q
   ·rename_i he
    have:y=n:=by simpa using he
    subst this
    rw [e] at q
    rw [e]
    exact q
   ·exact ha q
  ·exact ha q
theorem vZ {cells:List (Str×Addr)}{y:Str}:∀ (names:List (Str×NameKind)) (acc:List (Str×Addr)),(∃ c,acc.lookup y=some c)->∃ c,(cN cells names acc).lookup y=some c
 | [],acc,h=>h
 | (n,k)::r,acc,⟨c,h⟩=>by
  unfold cN
  refine vZ r _ ?_
  split
  ·rw [List.lookup_cons]
   split
   ·exact ⟨_,rfl⟩
   ·exact ⟨c,h⟩
  ·exact ⟨c,h⟩
theorem kW {cells:List (Str×Addr)}{y:Str}:∀ (names:List (Str×NameKind)) (acc:List (Str×Addr)),(y,NameKind.free)∈names->∃ c,(cN cells names acc).lookup y=some c
 | (n,k)::r,acc,h=>by
  unfold cN
  rcases List.mem_cons.mp h with e | h
  ·cases e
   refine vZ r _ ⟨(cells.lookup y).getD 0,?_⟩
   simp
  ·exact kW r _ h
theorem fF {scope:Scope}{env:Env}(h:∀ z∈scope.names,z.2 = .free->∃ c,env.cells.lookup z.1=some c):closureFor scope env=pure (cN env.cells scope.names []):=by
 have gen:∀ (names:List (Str×NameKind)) (acc:List (Str×Addr)),(∀ z∈names,z.2 = .free->∃ c,env.cells.lookup z.1=some c) ->
   (forIn names acc fun (x:Str×NameKind) (r:List (Str×Addr))=>(if (x.2==NameKind.free)=true then (do let a <- cellOf env x.1;pure (ForInStep.yield ((x.1,a)::r))) else pure (ForInStep.yield r):Sem (ForInStep (List (Str×Addr)))))=(pure (cN env.cells names acc):Sem (List (Str×Addr))):=by
  intro names
  induction names with
  | nil=>intro acc _;rfl
  | cons z r ih =>
   intro acc hz
   obtain ⟨n,k⟩:=z
   rw [List.forIn_cons]
   unfold cN
   by_cases hk:(k==NameKind.free)=true
   ·obtain ⟨c,e⟩:=hz (n,k) List.mem_cons_self (by simpa using hk)
    have e':env.cells.lookup n=some c:=e
    simp only [hk,if_true,cellOf,e',pure_bind,Option.getD_some]
    exact ih _ fun z hm=>hz z (List.mem_cons_of_mem _ hm)
   ·simp only [hk,Bool.false_eq_true,if_false,pure_bind]
    exact ih _ fun z hm=>hz z (List.mem_cons_of_mem _ hm)
 have g:=gen scope.names [] h
 unfold closureFor
 refine Eq.trans ?_ (congrArg (fun (m:Sem (List (Str×Addr)))=>m >>= fun cs=>pure cs) g)
 rfl
theorem aZ (scope:Scope)(env:Env)(y:Str):(relabel scope env).names.lookup y=(scope.names.lookup y).map fun k=>if (k==NameKind.free&&env.scope.kind == .function&&env.kindOf y==some .cell)=true then NameKind.cell else k:=by
 unfold relabel
 show List.lookup y (scope.names.map fun (n,k)=>if (k==NameKind.free&&env.scope.kind == .function&&env.kindOf n==some .cell)=true then (n,NameKind.cell) else (n,k))=_
 induction scope.names with
 | nil=>rfl
 | cons z r ih =>
  obtain ⟨n,k⟩:=z
  rw [List.map_cons]
  by_cases hy:(y==n)=true
  ·have e:y=n:=by simpa using hy
   subst e
   by_cases hc:(k==NameKind.free&&env.scope.kind == .function&&env.kindOf y==some .cell)=true
   ·simp only [hc,if_true,List.lookup_cons,beq_self_eq_true,Option.map_some]
   ·simp only [hc,if_false,List.lookup_cons,beq_self_eq_true,Option.map_some,Bool.false_eq_true]
  ·have hy':(y==n)=false:=by simpa using hy
   by_cases hc:(k==NameKind.free&&env.scope.kind == .function&&env.kindOf n==some .cell)=true
   ·simp only [hc,if_true,List.lookup_cons,hy']
    exact ih
   ·simp only [hc,if_false,List.lookup_cons,hy',Bool.false_eq_true]
    exact ih
theorem cP {κ:Type}:∀ {l:List (Str×κ)} {y:Str} {k:κ},l.lookup y=some k->(y,k)∈l:=fun h=>PySem.mem_of_lookup h
abbrev bY (X:Cx)(N':List Str)(scope:Scope)(cl:List (Str×Addr))(C:Addr)(s:Shared)(H:Hp)(fp:List Addr):Cx :=
 { X with env:=compEnvC scope cl C X.env,N:=N',s₀:=s,H₀:=H,outer:=X.stack,stack:=X.stack,ex:=fp,fn:=fun _=>false,xe:=fun _ _=>False }
abbrev Nh (cds:List Expr)(env:Env):Sem Bool:=forIn cds true fun c r=>if r=true then do let ok <- isTrue c env (eval c env);pure (ForInStep.yield ok) else pure (ForInStep.yield r)
def PTL (X:Cx)(cds:List Expr)(t:TT):Prop :=
 ∀ (pins:List (Addr×Obj)) (s:Shared) (σ:St) (H:Hp) (Q:Bool->Hp->Prop),Inv X pins σ H s->t σ H Q->wpAny (model X.prog X.w) X.A (Nh cds X.env) (TP X pins σ Q) X.xe s
theorem zN {X:Cx}:PTL X [] (fun _ H k=>k true H):=fun pins s σ H Q I q=>wpAny_tests_nil ⟨H,I,q⟩
theorem tT {X:Cx}{cd:Expr}{tc:TT}(h:PT X cd tc):PTL X [cd] tc:=fun pins s σ H Q I q=>wpAny_tests_one (h pins s σ H Q I q)
theorem fW {prog:Program}{w:World}{A:Around}{R:Result->Shared->Prop}{s:Shared}{elt target iter:Expr}{cds:List Expr}{scope:Scope}{pos:Pos}{it acc:Value}{env:Env}(I:Nat->Shared->Prop)
  (turn:∀ n s,I n s->wpAny (model prog w) A (pyNext it) (fun r s₁=>match r with
   | none=>R (.ok .next) s₁
   | some v=>wpAny (model prog w) A (letOwnedTupleGo target it v) (fun _ s₁'=>wpAny (model prog w) A (assign target env v) (fun _ s₂=>wpAny (model prog w) A (Nh cds env) (fun ok s₂' =>
    if ok=true then wpAny (model prog w) A (eval elt env) (fun x s₃ =>
     wpAny (model prog w) A (call (.builtin "list.append") [acc,x]) (fun _ s₄=>∃ m,m<n∧I m s₄) (fun _ _=>False) s₃) (fun _ _=>False) s₂'
    else ∃ m,m<n∧I m s₂') (fun _ _=>False) s₂) (fun _ _=>False) s₁') (fun _ _=>False) s₁) (fun _ _=>False) s)
  (n:Nat) (h:I n s) :
  codeAny (model prog w) A (.compLoop (.ListComp elt [⟨target,iter,cds,0⟩] scope pos) 0 it acc env) R s:=by
 refine codeAny_loop rfl I (fun n s hI=>?_) n h
 show wpAny _ A ((compTurn (.ListComp elt [⟨target,iter,cds,0⟩] scope pos) 0 it acc env).onRaise (fun x=>do noteFrame x env;theTreesLotGoes x)) _ _ s
 refine wpAny_noted ?_
 rw [compTurn_list]
 refine wpAny_bind (wpAny_standAt (wpAny_bind (wpAny_mono (turn n s hI) (fun r s₁ h₁=>?_) fun _ _ h'=>h'.elim)))
 cases r with
 | none=>exact wpAny_pure h₁
 | some v =>
  refine wpAny_bind (wpAny_mono h₁ (fun _ s₀ h₀=>?_) fun _ _ h'=>h'.elim)
  refine wpAny_bind (wpAny_mono h₀ (fun _ s₂ h₂=>?_) fun _ _ h'=>h'.elim)
  refine wpAny_bind ((wpAny_mono h₂ (fun ok s₃ h₃=>?_) fun _ _ h'=>h'.elim))
  cases ok with
  | false=>exact wpAny_pure ⟨rfl,by simpa using h₃⟩
  | true =>
   have h₃':=h₃
   simp only [if_true] at h₃'
   exact wpAny_bind (wpAny_bind (wpAny_mono h₃' (fun x s₄ h₄=>wpAny_bind (wpAny_mono h₄ (fun _ s₅ h₅=>wpAny_pure (wpAny_pure ⟨rfl,h₅⟩)) fun _ _ h'=>h'.elim)) fun _ _ h'=>h'.elim))
theorem iY {prog:Program}{w:World}{A:Around}{R:Result->Shared->Prop}{s:Shared}{elt target iter:Expr}{scope:Scope}{pos:Pos}{it acc:Value}{env:Env}(I:Nat->Shared->Prop)
  (turn:∀ n s,I n s->wpAny (model prog w) A (pyNext it) (fun r s₁=>match r with
   | none=>R (.ok .next) s₁
   | some v=>wpAny (model prog w) A (letOwnedTupleGo target it v) (fun _ s₁'=>wpAny (model prog w) A (assign target env v) (fun _ s₂=>wpAny (model prog w) A (eval elt env) (fun x s₃ =>
    wpAny (model prog w) A (call (.builtin "list.append") [acc,x]) (fun _ s₄=>∃ m,m<n∧I m s₄) (fun _ _=>False) s₃)
    (fun _ _=>False) s₂) (fun _ _=>False) s₁') (fun _ _=>False) s₁) (fun _ _=>False) s)
  (n:Nat) (h:I n s) :
  codeAny (model prog w) A (.compLoop (.ListComp elt [⟨target,iter,[],0⟩] scope pos) 0 it acc env) R s:=by
 refine codeAny_loop rfl I (fun n s hI=>?_) n h
 show wpAny _ _ ((compTurn (.ListComp elt [⟨target,iter,[],0⟩] scope pos) 0 it acc env).onRaise (fun x=>do noteFrame x env;theTreesLotGoes x)) _ _ s
 refine wpAny_noted ?_
 rw [compTurn_list1]
 refine wpAny_bind (wpAny_standAt (wpAny_bind (wpAny_mono (turn n s hI) (fun r s₁ h₁=>?_) fun _ _ h'=>h'.elim)))
 cases r with
 | none=>exact wpAny_pure h₁
 | some v =>
  refine wpAny_bind (wpAny_mono h₁ (fun _ s₁' h₁'=>?_) fun _ _ h'=>h'.elim)
  exact wpAny_bind (wpAny_mono h₁' (fun _ s₂ h₂=>wpAny_bind (wpAny_bind (wpAny_mono h₂ (fun x s₃ h₃=>wpAny_bind (wpAny_mono h₃
   (fun _ s₄ h₄=>wpAny_pure (wpAny_pure ⟨rfl,h₄⟩)) fun _ _ h'=>h'.elim)) fun _ _ h'=>h'.elim))) fun _ _ h'=>h'.elim)
def iI (te:TE)(σ:St)(Q:VK)(J:It)(H1:Hp):Prop:=∀ D,H1 D=none->∃ W:Nat->Nat->List V->Hp->Prop,(∃ m,W 0 m [] (upd H1 D (.lst [])))∧∀ i m ys H2,W i m ys H2 ->
 (J.stop i H2∧Q (.ref D) H2)∨(J.go i H2∧ys.length<sizeLine∧∃ N:V->Hp->Prop,(∀ v H',N v H'->H' D=some (.lst ys)∧∃ m',m'<m∧W (i+1) m' (ys++[v]) (upd H' D (.lst (ys++[v])))) ∧
  ∀ y H',J.yld i H2 y H'->te (some y::σ) H' N)
def Jk (wi:TI)(te:TE):TE:=fun σ H Q=>wi σ H (iI te σ Q)
def eQ (tc:TT)(te:TE)(σ:St)(Q:VK)(J:It)(H1:Hp):Prop:=∀ D,H1 D=none->∃ W:Nat->Nat->List V->Hp->Prop,(∃ m,W 0 m [] (upd H1 D (.lst [])))∧∀ i m ys H2,W i m ys H2 ->
 (J.stop i H2∧Q (.ref D) H2)∨(J.go i H2∧ys.length<sizeLine∧∃ N:V->Hp->Prop,(∀ v H',N v H'->H' D=some (.lst ys)∧∃ m',m'<m∧W (i+1) m' (ys++[v]) (upd H' D (.lst (ys++[v])))) ∧
  ∃ Nn:Hp->Prop,(∀ H',Nn H'->∃ m',m'<m∧W (i+1) m' ys H') ∧
  ∀ y H',J.yld i H2 y H'->tc (some y::σ) H' fun b H''=>if b=true then te (some y::σ) H'' N else Nn H'')
def yE (wi:TI)(tc:TT)(te:TE):TE:=fun σ H Q=>wi σ H (eQ tc te σ Q)
section
variable {X:Cx}{N':List Str}{scope:Scope}{x:Str}{px:Pos}{elt iter:Expr}{cds:List Expr}{pos:Pos}{te:TE}{tc:TT}{wi:TI}
theorem oY (S:cU X.N N' X.env.scope scope x)(hc:X.calm=true)(ht:∀ cl C s H fp,PTL (bY X N' scope cl C s H fp) cds tc)(he:∀ cl C s H fp,PE (bY X N' scope cl C s H fp) elt te)
  {pins:List (Addr×Obj)} {σ:St} {H:Hp} {s:Shared} {Q:VK} {E:Value->Shared->Prop} {RR:Value->Addr->Result->Shared->Prop} {it:Addr} {fp:List Addr} {tn:Nat->Heap->Prop} {J:It}
  (I:Inv X pins σ H s) (T:pA X.prog X.w X.K (.Name x px) J fp it tn) (st:tn 0 s.heap) (f2:∀ b∈fp,jB X pins H b)
  (hw:eQ tc te σ Q J H)
  (hRR:∀ D C s' H',Inv X pins σ H' s'->(∃ m,s'.heap.Ns C m)->C≠X.env.locals->(∀ y c,X.env.cells.lookup y=some c->c≠C)->H' C=none->X.s₀.heap.objs.size<=C->(∀ p∈X.pn++pins,p.1≠C)->Q (.ref D) H'->RR (.ref D) C (.ok .next) s') :
  ∃ cl,closureFor scope X.env=pure cl∧wpAny (model X.prog X.w) X.A (newList []) (fun acc s₃=>wpAny (model X.prog X.w) X.A (newFunctionEnv scope X.env.globals cl [] X.env.qual none .none (some X.env)) (fun cenv s₄ =>
   codeAny (model X.prog X.w) X.A (.compStart (.ListComp elt [⟨.Name x px,iter,cds,0⟩] scope pos) 0 (.ref it) acc { cenv with scope:=relabel scope X.env }) (RR acc cenv.locals) s₄) E s₃) E s:=by
 have hfree:∀ z∈scope.names,z.2 = .free->∃ c,X.env.cells.lookup z.1=some c:=fun z hz hk=>by
  rcases S.ok z hz hk with q | q
  ·exact I.ok.has z.1 (.inl q)
  ·exact I.ok.has z.1 (.inr q)
 refine ⟨_,fF hfree,?_⟩
 have clS:∀ y c,(cN X.env.cells scope.names []).lookup y=some c->X.env.cells.lookup y=some c:=fun y c=>iJ scope.names [] hfree fun q=>by cases q
 generalize hcl:cN X.env.cells scope.names []=cl at clS
 have clH:∀ y,scope.names.lookup y=some .free->∃ c,cl.lookup y=some c:=fun y hy=>by
  rw [<- hcl]
  exact kW scope.names [] (cP hy)
 refine wpAny_newObj_type (wpAny_newFunctionEnv S.cell (by intro y hy;simp at hy) (fun h₁ hns₁ hsb₁=>?_) S.kind)
 have I3:Inv X pins σ (upd H s.heap.objs.size (.lst [])) { s with heap:=s.heap.push { cls:=.type "list",data:=.seq ([]:List Value).toArray } }:=I.lnew (t':=s.toks) .nil (Nat.zero_le _)
 obtain ⟨W,⟨m0,w0⟩,turn⟩:=hw s.heap.objs.size I.fresh
 dsimp only at hns₁ hsb₁ ⊢
 generalize hs3:({ s with heap:=s.heap.push { cls:=.type "list",data:=.seq ([]:List Value).toArray } }:Shared)=s3 at I3
 have hh3:s3.heap=s.heap.push { cls:=.type "list",data:=.seq ([]:List Value).toArray }:=by rw [<- hs3]
 have hsz3:s3.heap.objs.size=s.heap.objs.size+1:=by rw [hh3,Heap.size_push]
 rw [<- hh3] at hns₁ hsb₁ ⊢
 have old:∀ b o,s3.heap.get? b=some o->h₁.get? b=some o:=fun b o e=>hsb₁.extBut b o (by have:=Heap.lt_size e;exact Nat.ne_of_lt this) (Heap.get?_push_of_some _ e)
 have old0:∀ b o,s.heap.get? b=some o->h₁.get? b=some o:=fun b o e=>old b o (by rw [hh3];exact Heap.get?_push_of_some _ e)
 have CneL:s3.heap.objs.size≠X.env.locals:=Nat.ne_of_gt I3.lt
 have CneC:∀ y c,X.env.cells.lookup y=some c->c≠s3.heap.objs.size:=fun y c e z=>by
  obtain ⟨v,q⟩:=I3.cell y c e
  have:=q.lt
  rw [z] at this
  exact absurd this (Nat.lt_irrefl _)
 have CneP:∀ p∈X.pn++pins,p.1≠s3.heap.objs.size:=fun p hp z=>by
  have:=Heap.lt_size (I3.pin p hp).1
  rw [z] at this
  exact absurd this (Nat.lt_irrefl _)
 have CfreeH:∀ b o,s3.heap.get? b=some o->b<s3.heap.objs.size:=fun b o e=>by have:=Heap.lt_size e;exact this
 have fpLt:∀ b∈fp,b<s3.heap.objs.size:=fun b hb=>by
  obtain ⟨o,e,_⟩:=T.obj 0 s.heap st b hb
  rw [hsz3]
  exact Nat.lt_succ_of_lt (Heap.lt_size e)
 have fpD:∀ b∈fp,b≠s.heap.objs.size:=fun b hb=>by
  obtain ⟨o,e,_⟩:=T.obj 0 s.heap st b hb
  exact Nat.ne_of_lt (Heap.lt_size e)
 have ok':(bY X N' scope cl s3.heap.objs.size s3 (upd H s.heap.objs.size (.lst [])) fp).Ok:=by
  refine ⟨I3.ok.mod,?_,I3.ok.glob,I3.ok.blt,Nat.le_refl _,fun y z c h1 h2=>I3.ok.inj y z c (clS y c h1) (clS z c h2),fun y hy=>?_,fun y c hf=>(by cases hf),I3.ok.hd,I3.ok.frames,.inl rfl,fun b hb=>⟨Nat.ne_of_lt (fpLt b hb),fun y c e=>(f2 b hb).2.2.2.2.1 y c (clS y c e)⟩,
   fun b o e=>I3.bs b o e,Nat.le_trans I3.ok.bsz I3.sz,fun b o e hb=>?_,fun b hb z=>?_,I3.stack,I3.stkFree⟩
  ·show (relabel scope X.env).kind = .function
   exact S.kind
  ·have hy':(relabel scope X.env).names.lookup y=some .cell∨(relabel scope X.env).names.lookup y=some .free:=hy
   rw [aZ] at hy'
   cases q:scope.names.lookup y with
   | none=>rw [q] at hy';rcases hy' with z | z <;> cases z
   | some k =>
    have hm:=cP q
    cases k with
    | free=>exact clH y q
    | cell=>exact absurd rfl (S.cell _ hm)
    | «local» => rw [q] at hy';rcases hy' with z | z <;> simp at z
    | globalExplicit=>rw [q] at hy';rcases hy' with z | z <;> simp at z
    | globalImplicit=>rw [q] at hy';rcases hy' with z | z <;> simp at z
  ·rcases (f2 b hb).2.2.2.1 with z | z
   ·exact I.ok.noex b o e z
   ·exact absurd (Nat.lt_of_lt_of_le (Heap.lt_size e) (Nat.le_trans I.ok.bsz z)) (Nat.lt_irrefl _)
  ·rcases List.mem_cons.mp (I3.stkSub b z) with q | q
   ·exact (f2 b hb).2.1 q
   ·exact (f2 b hb).2.2.1 q
 have fpOk':∀ {H':Hp},(∀ b∈fp,H' b=none)->∀ b∈fp,jB (bY X N' scope cl s3.heap.objs.size s3 (upd H s.heap.objs.size (.lst [])) fp) pins H' b:=fun hn b hb =>
  ⟨hn b hb,Nat.ne_of_lt (fpLt b hb),fun z=>by
   rcases List.mem_cons.mp (I3.stkSub b z) with q | q
   ·exact (f2 b hb).2.1 q
   ·exact (f2 b hb).2.2.1 q,.inl hb,fun y c e=>(f2 b hb).2.2.2.2.1 y c (clS y c e),(f2 b hb).2.2.2.2.2⟩
 have I4:Inv (bY X N' scope cl s3.heap.objs.size s3 (upd H s.heap.objs.size (.lst [])) fp) pins (none::σ) (upd H s.heap.objs.size (.lst [])) { s3 with heap:=h₁,toks:=s3.toks+([]:List (Str×Value)).length }:=by
  refine ⟨ok',rfl,I3.bare,Un.kept old,⟨_,hns₁,fun i y v e1 e2 vis=>?_⟩,fun y c e=>?_,?_,fun y c e=>I3.freeC y c (clS y c e),fun p hp=>?_,I3.hok.kept old,?_⟩
  ·cases i with
   | zero=>cases e2
   | succ i =>
    have e2':σ[i]?=some (some v):=by simpa using e2
    have hi:i<X.N.length:=by rw [<- I3.len];exact (List.getElem?_eq_some_iff.mp e2').1
    have vis':(relabel scope X.env).names.lookup y=some .local∨(relabel scope X.env).names.lookup y=some .cell∨(relabel scope X.env).names.lookup y=some .free:=vis
    have e1':N'[i+1]?=some y:=e1
    rcases S.sub i hi with q | q
    ·rw [e1'] at q
     have hy:X.N[i]?=some y:=q.symm
     have hmem:y∈N'.tail:=by
      rw [List.mem_iff_getElem?]
      exact ⟨i,by rw [List.getElem?_tail];exact e1'⟩
     have hfr:scope.names.lookup y=some .free:=by
      rw [aZ] at vis'
      cases q2:scope.names.lookup y with
      | none=>rw [q2] at vis';rcases vis' with z | z | z <;> cases z
      | some k =>
       cases k with
       | free=>rfl
       | cell=>exact absurd rfl (S.cell _ (cP q2))
       | «local» => exact absurd q2 (S.nol y hmem)
       | globalExplicit=>rw [q2] at vis';rcases vis' with z | z | z <;> simp at z
       | globalImplicit=>rw [q2] at vis';rcases vis' with z | z | z <;> simp at z
     have hok:=S.ok (y,.free) (cP hfr) rfl
     obtain ⟨m,hn,hl⟩:=I3.loc
     have visX:Vis X.env.scope y:=by
      rcases hok with z | z
      ·exact .inr (.inl z)
      ·exact .inr (.inr z)
     obtain ⟨u,r,l⟩:=hl i y v hy e2' visX
     refine ⟨u,r,.inr ⟨?_,?_⟩⟩
     ·show (relabel scope X.env).names.lookup y=some .cell∨(relabel scope X.env).names.lookup y=some .free
      rw [aZ,hfr,Option.map_some]
      by_cases hcnd:(NameKind.free==NameKind.free&&X.env.scope.kind == .function&&X.env.kindOf y==some .cell)=true
      ·left
       rw [if_pos hcnd]
      ·right
       rw [if_neg hcnd]
     ·rcases l with ⟨k,_⟩ | ⟨k,c,e,z⟩
      ·have k':X.env.scope.names.lookup y=some .local:=k
       have hok':X.env.scope.names.lookup y=some .cell∨X.env.scope.names.lookup y=some .free:=hok
       rw [k'] at hok'
       rcases hok' with z | z <;> cases z
      ·obtain ⟨c',e'⟩:=clH y hfr
       have e3:=clS y c' e'
       rw [e] at e3
       cases e3
       obtain ⟨o,ho,hd⟩:=z
       exact ⟨c,e',o,old c o ho,hd⟩
    ·rw [e1'] at q
     have q:scope.names.lookup y=none:=Option.some.inj q
     rw [aZ,q] at vis'
     rcases vis' with z | z | z <;> cases z
  ·obtain ⟨v,o,ho,hd⟩:=I3.cell y c (clS y c e)
   exact ⟨v,o,old c o ho,hd⟩
  ·show upd H s.heap.objs.size (.lst []) s3.heap.objs.size=none
   exact I3.hok.fresh (Nat.le_refl _)
  ·obtain ⟨e,n,ne,nf,d⟩:=I3.pin p hp
   refine ⟨old _ _ e,n,CneP p hp,fun z=>?_,d⟩
   rcases List.mem_cons.mp (I3.stkSub p.1 z) with q | q
   ·exact ne q
   ·exact nf q
  ·show (none::σ).length=N'.length
   rw [S.len,List.length_cons,I3.len]
 have st4:tn 0 h₁:=T.keep 0 s.heap h₁ st fun b _ o e=>old0 b o e
 have loop:∀ s₄:Shared,s₄ = { s3 with heap:=h₁,toks:=s3.toks+([]:List (Str×Value)).length } ->
   codeAny (model X.prog X.w) X.A (.compLoop (.ListComp elt [⟨.Name x px,iter,cds,0⟩] scope pos) 0 (.ref it) (.ref s.heap.objs.size) (compEnvC scope cl s3.heap.objs.size X.env)) (RR (.ref s.heap.objs.size) s3.heap.objs.size) s₄:=by
  rintro s₄ rfl
  refine fW (fun n s'=>∃ i v0 ys H',Inv (bY X N' scope cl s3.heap.objs.size s3 (upd H s.heap.objs.size (.lst [])) fp) pins (v0::σ) H' s'∧tn i s'.heap∧(∀ b∈fp,H' b=none)∧W i n ys H') ?_ m0
   ⟨0,none,[],_,I4,st4,fun b hb=>by rw [aI (fpD b hb)];exact (f2 b hb).1,w0⟩
  rintro n s5 ⟨i,v0,ys,H5,I5,st5,fr5,w5⟩
  rcases turn i n ys H5 w5 with ⟨stop,qn⟩ | ⟨go,hz,N,hN,Nn,hNn,step⟩
  ·refine thn (T.done (bY X N' scope cl s3.heap.objs.size s3 (upd H s.heap.objs.size (.lst [])) fp) rfl rfl rfl hc i pins s5 (v0::σ) H5 (fun _ _=>False) I5 (fpOk' fr5) st5 stop) fun r s6 ⟨hr,I6⟩=>?_
   subst hr
   have hch:∀ b∈fp,(b∈X.ex∨X.s₀.heap.objs.size<=b)∧b≠X.env.locals∧(∀ x c,X.env.cells.lookup x=some c->c≠b)∧∀ p∈X.pn++pins,p.1≠b:=fun b hb =>
    ⟨(f2 b hb).2.2.2.1,(f2 b hb).2.1,(f2 b hb).2.2.2.2.1,(f2 b hb).2.2.2.2.2⟩
   have I7:Inv X pins σ H5 s6:=I3.call' (ch:=fp) I6.os I6.base I6.hok I6.bare hch
   obtain ⟨m,hm,_⟩:=I6.loc
   exact hRR s.heap.objs.size s3.heap.objs.size s6 H5 I7 ⟨m,hm⟩ CneL CneC I6.free (Nat.le_trans I3.sz (Nat.le_refl _)) CneP qn
  ·refine thn (T.item (bY X N' scope cl s3.heap.objs.size s3 (upd H s.heap.objs.size (.lst [])) fp) rfl rfl rfl hc i pins s5 (v0::σ) H5 (fun _ _=>False) I5 (fpOk' fr5) st5 go) fun r s6 ⟨u,hr,h6⟩=>?_
   subst hr
   refine thn h6 fun _ s7 ⟨y,H7,I7,r7,y7,st7,fr7⟩=>?_
   have I7':=I7.pinned (fpOk' fr7) (T.obj _ _ st7)
   refine wpAny_assign_Name (lL (i:=0) (v:=y) I7' S.nd S.hd (.inl (lookup_relabel_local S.var)) r7 (fun s8 I8=>?_) (.inr (lookup_relabel_local S.var)))
   have I8':Inv (bY X N' scope cl s3.heap.objs.size s3 (upd H s.heap.objs.size (.lst [])) fp) (pins++jI fp s7.heap) (some y::σ) H7 s8:=I8
   refine thn (ht cl s3.heap.objs.size s3 (upd H s.heap.objs.size (.lst [])) fp _ s8 (some y::σ) H7 (fun b H''=>if b=true then te (some y::σ) H'' N else Nn H'') I8' (step y H7 y7)) fun okb s8 ⟨H8,I8,q8⟩=>?_
   cases okb with
   | false =>
    have q8':Nn H8:=by simpa using q8
    obtain ⟨m',hm,w9⟩:=hNn H8 q8'
    refine ⟨m',hm,i+1,some y,ys,_,I8.unpinned,T.keep _ _ _ st7 fun b hb o e=>(I8.pin (b,o) (List.mem_append_right _ (List.mem_append_right _ (cK hb e)))).1,fun b hb=>?_,w9⟩
    obtain ⟨o,e,d⟩:=T.obj _ _ st7 b hb
    exact (I8.pin (b,o) (List.mem_append_right _ (List.mem_append_right _ (cK hb e)))).2.1
   | true =>
    refine thn (he cl s3.heap.objs.size s3 (upd H s.heap.objs.size (.lst [])) fp _ s8 (some y::σ) H8 N I8 (by simpa using q8)) fun w s9 ⟨v,H9,I9,r9,q9⟩=>?_
    obtain ⟨hD9,m',hm,w9⟩:=hN v H9 q9
    refine thn (gA _ s9 (some y::σ) H9 (.ref s.heap.objs.size) [v] (.ref s.heap.objs.size) [w] (fun z H10=>z = .non∧H10=upd H9 s.heap.objs.size (.lst (ys++[v]))) I9 rfl (.cons r9 .nil) ⟨s.heap.objs.size,ys,v,rfl,rfl,hD9,hz,rfl,rfl⟩) fun _ s10 ⟨z,H10,I10,_,ez,e10⟩=>?_
    subst e10
    refine ⟨m',hm,i+1,some y,ys++[v],_,I10.unpinned,T.keep _ _ _ st7 fun b hb o e=>(I10.pin (b,o) (List.mem_append_right _ (List.mem_append_right _ (cK hb e)))).1,fun b hb=>?_,w9⟩
    obtain ⟨o,e,d⟩:=T.obj _ _ st7 b hb
    exact (I10.pin (b,o) (List.mem_append_right _ (List.mem_append_right _ (cK hb e)))).2.1
 exact codeAny_compStart_list (loop _ (by rw [<- hs3])) (T.self X.A 0 _ _ _ st4 (loop _ (by rw [<- hs3])))
theorem iI.toF {te:TE}{σ:St}{Q:VK}{J:It}{H:Hp}(hw:iI te σ Q J H):eQ (fun _ H k=>k true H) te σ Q J H:=fun D hD=>by
 obtain ⟨W,h0,hW⟩:=hw D hD
 refine ⟨W,h0,fun i m ys H2 hw2=>?_⟩
 rcases hW i m ys H2 hw2 with g | ⟨g1,g2,N,g3,g4⟩
 ·exact .inl g
 ·exact .inr ⟨g1,g2,N,g3,fun _=>False,fun _ z=>z.elim,fun y H' hy=>Cm (g4 y H' hy)⟩
theorem vR {at':St->VK->It->Hp->Prop}(S:cU X.N N' X.env.scope scope x)(hc:X.calm=true)(hi:PI X (.Name x px) iter wi)(ht:∀ cl C s H fp,PTL (bY X N' scope cl C s H fp) cds tc)(he:∀ cl C s H fp,PE (bY X N' scope cl C s H fp) elt te)(cv:∀ σ Q J H,at' σ Q J H->eQ tc te σ Q J H)
  (hs:∀ x,foldedSetIterable iter X.env x=pure x:=by intro _;rfl):PE X (.ListComp elt [⟨.Name x px,iter,cds,0⟩] scope pos) (fun σ H Q=>wi σ H (at' σ Q)):=by
 intro pins s σ H Q I h
 rw [eval_ListComp]
 have hfree:∀ z∈scope.names,z.2 = .free->∃ c,X.env.cells.lookup z.1=some c:=fun z hz hk=>by
  rcases S.ok z hz hk with q | q
  ·exact I.ok.has z.1 (.inl q)
  ·exact I.ok.has z.1 (.inr q)
 refine wpAny_comprehension_free (use:=none) rfl hs (fF hfree) S.kind S.names (thn (hi pins s σ H _ I h) fun xv s1 h1=>thn h1 fun itv s2 h2=>?_)
 obtain ⟨it,fp,tn,J,H2,e,I2,T,st2,f2,hw⟩:=h2
 subst e
 obtain ⟨cl,hcl,hrun⟩:=oY (tc:=tc) (cds:=cds) (elt:=elt) (iter:=iter) (pos:=pos) (px:=px) (E:=X.xe) (RR:=fun acc C=>compPost (model X.prog X.w) X.A X.xe none (EP X pins σ Q) acc C) S hc ht he I2 T st2 f2 (cv _ _ _ _ hw) (fun D C s' H' I' ⟨m,hm⟩ n1 n2 n3 n4 n5 q =>
  ⟨m,hm,fun h' hsb=>⟨.ref D,H',I'.turned (it:=C) (t':=s'.toks) (fun b o hb e=>(hsb.2 b hb).trans e) n3 n1 (.inr n4) n2 n5,rfl,q⟩⟩)
 have ecl:(pure (cN X.env.cells scope.names []):Sem (List (Str×Addr)))=pure cl:=(fF hfree).symm.trans hcl
 have ecl':cN X.env.cells scope.names []=cl:=by
  injection ecl
 rw [ecl']
 exact hrun
theorem mR {at':St->VK->It->Hp->Prop}{i:Nat}{y:Str}{py spos:Pos}(S:cU X.N N' X.env.scope scope x)(hc:X.calm=true)(hi:PI X (.Name x px) iter wi)(ht:∀ cl C s H fp,PTL (bY X N' scope cl C s H fp) cds tc)(he:∀ cl C s H fp,PE (bY X N' scope cl C s H fp) elt te)(cv:∀ σ Q J H,at' σ Q J H->eQ tc te σ Q J H)
  (hN:X.N.Nodup) (hy:X.N[i]?=some y) (hyl:X.env.scope.names.lookup y=some .local)
  (hsw:swapsWith (.ListComp elt [⟨.Name x px,iter,cds,0⟩] scope pos) (some (.Name y py)) spos.line X.env=pure true:=by rfl)
  (hs:∀ x,foldedSetIterable iter X.env x=pure x:=by intro _;rfl):PS X (.Assign [.Name y py] (.ListComp elt [⟨.Name x px,iter,cds,0⟩] scope pos) spos) (Gq (fun σ H Q=>wi σ H (at' σ Q)) (qX i)):=by
 intro pins s σ H D0 I h
 have hfree:∀ z∈scope.names,z.2 = .free->∃ c,X.env.cells.lookup z.1=some c:=fun z hz hk=>by
  rcases S.ok z hz hk with q | q
  ·exact I.ok.has z.1 (.inl q)
  ·exact I.ok.has z.1 (.inr q)
 rw [exec_Assign_Name_used _ _ _ _ hsw]
 refine wpAny_bind (wpAny_standAt (wpAny_bind ?_))
 show wpAny _ X.A (do let _ <- comprehension (.ListComp elt [⟨.Name x px,iter,cds,0⟩] scope pos) scope X.env _ (newList []) false (eval iter X.env) (some (assign (.Name y py) X.env))) _ _ s
 refine wpAny_bind (wpAny_mono (wpAny_comprehension_free (use:=some (assign (.Name y py) X.env)) (Q:=fun _ s'=>SP X pins D0 .next s') rfl hs (fF hfree) S.kind S.names
  (thn (hi pins s σ H _ I h) fun xv s1 h1=>thn h1 fun itv s2 h2=>?_)) (fun _ s' hq=>wpAny_pure (wpAny_pure hq)) fun _ _ e=>e)
 obtain ⟨it,fp,tn,J,H2,e,I2,T,st2,f2,hw⟩:=h2
 subst e
 obtain ⟨cl,hcl,hrun⟩:=oY (tc:=tc) (cds:=cds) (elt:=elt) (iter:=iter) (pos:=pos) (px:=px) (E:=X.xe) (Q:=fun x H1=>qX i x σ H1 D0.nx) (RR:=fun acc C=>compPost (model X.prog X.w) X.A X.xe (some (assign (.Name y py) X.env)) (fun _ s'=>SP X pins D0 .next s') acc C) S hc ht he I2 T st2 f2 (cv _ _ _ _ hw) (fun D C s' H' I' ⟨m,hm⟩ n1 n2 n3 n4 n5 q=>by
  show wpAny _ X.A (assign (.Name y py) X.env (.ref D)) _ _ _
  refine wpAny_assign_Name (rD (i:=i) (v:=.ref D) I' hN hy (.inl hyl) rfl (fun s'' I'' ⟨a,hsa,hwa⟩=>?_) (.inr hyl))
  have haC:C≠a:=by
   rcases hwa with z | z
   ·rw [z];exact n1
   ·intro z2
    exact n2 y a z z2.symm
  refine ⟨m,hm.sameBut hsa haC,fun h' hsb=>?_⟩
  exact ⟨_,H',I''.turned (it:=C) (t':=s''.toks) (fun b o hb e=>(hsb.2 b hb).trans e) n3 n1 (.inr n4) n2 n5,q⟩)
 have ecl:(pure (cN X.env.cells scope.names []):Sem (List (Str×Addr)))=pure cl:=(fF hfree).symm.trans hcl
 have ecl':cN X.env.cells scope.names []=cl:=by
  injection ecl
 rw [ecl']
 exact hrun
theorem eR (S:cU X.N N' X.env.scope scope x)(hc:X.calm=true)(hi:PI X (.Name x px) iter wi)(he:∀ cl C s H fp,PE (bY X N' scope cl C s H fp) elt te)
  (hs:∀ x,foldedSetIterable iter X.env x=pure x:=by intro _;rfl):PE X (.ListComp elt [⟨.Name x px,iter,[],0⟩] scope pos) (Jk wi te) :=
 vR (at':=fun σ Q=>iI te σ Q) S hc hi (fun _ _ _ _ _=>zN) he (fun _ _ _ _ h=>h.toF) hs
theorem wN {i:Nat}{y:Str}{py spos:Pos}(S:cU X.N N' X.env.scope scope x)(hc:X.calm=true)(hi:PI X (.Name x px) iter wi)(he:∀ cl C s H fp,PE (bY X N' scope cl C s H fp) elt te)
  (hN:X.N.Nodup) (hy:X.N[i]?=some y) (hyl:X.env.scope.names.lookup y=some .local)
  (hsw:swapsWith (.ListComp elt [⟨.Name x px,iter,[],0⟩] scope pos) (some (.Name y py)) spos.line X.env=pure true:=by rfl)
  (hs:∀ x,foldedSetIterable iter X.env x=pure x:=by intro _;rfl):PS X (.Assign [.Name y py] (.ListComp elt [⟨.Name x px,iter,[],0⟩] scope pos) spos) (Gq (Jk wi te) (qX i)) :=
 mR (at':=fun σ Q=>iI te σ Q) S hc hi (fun _ _ _ _ _=>zN) he (fun _ _ _ _ h=>h.toF) hN hy hyl hsw hs
end
end L2
namespace L2
open PySem PySem.Spec PyProof.Rows
set_option genInjectivity false in
structure Cal (P:Program)(w:World)(K:PySem.W.Frag)(mg:Str->Option Value)(base:Heap)(CX:CXT)(x:Str)(k:Nat)(ps:List Str)(sp:Sp):Prop where
 ex:∃ (f:Addr) (fd:FuncData),cT P w K mg base CX k f fd ps sp∧mg x=some (.ref f)∧PySem.W.keepIn K (.ref f)=true∧kU K fd ps []
section
variable {X:Cx}
theorem aU {CX:CXT}{x:Str}{j k:Nat}{ps:List Str}{sp:Sp}{E:XK}{e:Expr}{es:List Expr}{t:TA}{p pos:Pos}(c:Cal X.prog X.w X.K X.mg X.base CX x j ps sp)(hr:fR k X.A)(hx:jH CX X E)(ha:PA X (e::es) t)
  (hjk:j<=k:=by decide) (hg:Gl X x:=by rfl) (hdb:(x==("__debug__" : Str))=false:=by decide) (he:starEach (e::es) X.env=(false,eval e X.env)::starEach es X.env:=by rfl) (hpl:(backTo pos (starEach es X.env)).any (·.1)=false:=by rfl) :
  PE X (.Call (.Name x p) (e::es) [] pos) (Jq sp [] E t):=by
 obtain ⟨f,fd,F,hm,hk,hb⟩:=c.ex
 exact Iu F (hr.mono hjk) hg hm hk hb .nil hx ha hdb he hpl
theorem cS (l:List Nat){x:Str}{j pos}(h:x=tx l):PE X (.Constant (.str x) j pos) (tC (T l)):=by
 subst h
 exact Kt
theorem dU:eO X (.builtin "len") (fun xs H Q=>∃ (l:List Nat),xs=[T l]∧l.length<=sizeLine∧Q (.int (l.length:Nat)) H):=by
 intro pins s σ H xs us Q I r h
 obtain ⟨l,e,hz,q⟩:=h
 exact sU pins s σ H xs us Q I r ⟨tx l,e,by rw [fS];exact hz,by rw [fS];exact q⟩
theorem Pc:IxR X (fun x y H Q=>∃ (l:List Nat),x=T l∧∃ (i:Int),y = .int i∧l.length<=sizeLine∧∃ c,atI l i=some c∧Q (T [c]) H):=by
 intro value slice pins s σ H x y v u Q I rx ry h hs
 obtain ⟨l,e1,i,e2,hz,c,hc,q⟩:=h
 exact Kk value slice pins s σ H x y v u Q I rx ry ⟨tx l,i,c,e1,e2,by rw [fS];exact hz,by rw [eJ];exact hc,q⟩ hs
theorem mZ:eO X (.builtin "isinstance") (fun xs H Q=>∃ (x:V) (c:String) (t:Value) (b:Bool),xs=[x,.ty c]∧mI X.K H x t∧PySem.W.kitOne X.K t (.type c)=some b∧Q (.bl b) H):=by
 intro pins s σ H xs us Q I r h
 obtain ⟨x,c,t,b,rfl,ty,e,q⟩:=h
 obtain ⟨u,w',rfl,ru,rw'⟩:=Ol r
 cases (show w'=Value.type c from rw')
 exact Bk I ru ty e fun tk=>⟨.bl b,H,I.tok tk,rfl,q⟩
theorem Gx {K:PySem.W.Frag}(T:String):PySem.W.kitOne K (.type T) (.type T)=some true:=by
 unfold PySem.W.kitOne
 rw [if_pos (by simp)]
theorem rW {K:PySem.W.Frag}:PySem.W.kitOne K (.type "int") (.type "bool")=some false:=by
 unfold PySem.W.kitOne
 rw [if_neg (by decide)]
 rfl
theorem jQ:OpR X (binaryOp .Add) (fun x y H Q=>∃ (l b:Addr) (xs zs:List V),x = .ref l∧y = .ref b∧SqL X.K H l xs∧SqL X.K H b zs∧xs.length+zs.length<=sizeLine∧∀ p,H p=none->Q (.ref p) (upd H p (.lst (xs++zs)))):=by
 intro pins s σ H x y v u Q I rx ry h
 obtain ⟨l,b,xs,zs,rfl,rfl,hH,hB,hz,q⟩:=h
 cases rx
 cases ry
 obtain ⟨its,r,⟨⟨cls,dd,data,sl⟩,n,ho,hc,hdd,hd⟩,_⟩:=I.list hH
 obtain ⟨its2,r2,⟨⟨cls2,dd2,data2,sl2⟩,n2,ho2,hc2,hdd2,hd2⟩,_⟩:=I.list hB
 simp only at hc hd hc2 hd2
 subst hc hd hc2 hd2
 have e:its.toArray++its2.toArray=(its++its2).toArray:=by simp
 refine concat_meets ⟨_,ho,rfl⟩ ⟨_,ho2,rfl⟩ noFill_list_add seq_list_add PySem.F.slot_list_add PySem.F.entry_list_add (PySem.F.args_list_add_2 _ _) (list_addW l b its.toArray its2.toArray n n2 dd dd2 sl sl2 (by rw [List.size_toArray,List.size_toArray,<- r.length,<- r2.length];exact hz)) ⟨ho,ho2,?_⟩
 rw [e]
 exact ⟨.ref _,_,I.lnew (t':=s.toks) (r.append r2) (by rw [List.length_append];exact hz),rfl,q _ I.fresh⟩
theorem jA (ls:List (List Nat)):(ls.map T).all gM=true:=by
 rw [List.all_map,List.all_eq_true]
 intro l _
 rfl
end
end L2
namespace L2
open PySem PySem.Spec PyProof.Rows
set_option genInjectivity false in
structure Fly (P:Program)(w:World)(outer:List Env)(H:Hp)(s:Shared)(a:Addr)(cls:Value)(H':Hp)(s':Shared):Prop where
 os:s'.os=s.os
 bare:AllBare s'.gens
 ex:∃ (B:Heap) (t:Addr),Heap.FlyingW B outer a cls (.ref t) s'.heap∧HOk P w H' B∧(∀ b o,s.heap.get? b=some o->H b=none->b∉frs outer->B.get? b=some o) ∧
  ∀ b o,s.heap.get? b=some o->b∉frs outer->∃ o',B.get? b=some o'
 slot:∀ b o,s.heap.get? b=some o->H b=none->b∈frs outer->∃ sl,s'.heap.get? b=some { o with slots:=sl }
 free:∀ b o,s.heap.get? b=some o->H b=none->H' b=none
 tups:∀ b xs,H b=some (.tup xs)->H' b=some (.tup xs)
 frzs:∀ b o u,H b=some (.frz o u)->H' b=some (.frz o u)
 tbls:∀ b ps,H b=some (.tbl ps)->∃ more,H' b=some (.tbl (ps++more))
def CX1 (P:Program)(w:World):CXT:=fun outer H s E e s'=>∃ a cls H',e = .ref a∧Fly P w outer H s a cls H' s'∧E cls none H'
section
variable {X:Cx}{pins:List (Addr×Obj)}{σ:St}{H H':Hp}{s s':Shared}{a:Addr}{cls:Value}{E:Value->Shared->Prop}
set_option genInjectivity false in
structure Own (X:Cx):Prop where
 stk:X.stack=X.env::X.outer
 fr:X.env.frame=some X.env.locals
 ex:X.ex=[]
theorem Own.frs (O:Own X){b:Addr}:b∈frs X.stack↔b=X.env.locals∨b∈frs X.outer:=by
 unfold L2.frs
 rw [O.stk,List.filterMap_cons,O.fr]
 exact List.mem_cons
theorem Inv.oldNe (I:Inv X pins σ H s){b:Addr}{o:Obj}(e:X.s₀.heap.get? b=some o):b≠X.env.locals:=Nat.ne_of_lt (Nat.lt_of_lt_of_le (Heap.lt_size e) I.ok.above)
theorem Inv.hidHok (I:Inv X pins σ H s):HOk X.prog X.w H (PySem.W.hideAll s.heap (L2.frs X.stack)):=fun b u e =>
 (I.hok b u e).stay (fun c v hc q=>PySem.W.hideAll_get _ q fun hm=>by
  have n:=I.stkFree c hm
  rcases hc with z | z
  ·rw [z,e] at n
   cases n
  ·rw [z] at n
   cases n) (fun _ q=>q) fun _ _ q=>q
theorem Fly.raised {args:List Value}{h:Heap}(I:Inv X pins σ H s)(O:Own X)(hx:Heap.MadeExcOf s.heap h a cls args) :
  wpAny (model X.prog X.w) X.A (leaving X.env (.ref a)) (fun _ s''=>Fly X.prog X.w X.outer X.H₀ X.s₀ a cls H s'') E { s with heap:=h }:=by
 have hst:=I.stack
 have hin:∀ env∈X.stack,∀ b,env.frame=some b->b∈L2.frs X.stack:=fun env he b hb=>List.mem_filterMap.mpr ⟨env,he,hb⟩
 have hl:=PySem.W.funFrames_hide hst hin
 rw [O.stk] at hl
 have hfr:=I.ok.frames
 rw [O.stk] at hfr
 have noEx:∀ b,b∉X.ex:=fun b z=>by
  rw [O.ex] at z
  cases z
 refine wpAny_leaves_madeW (s:={ s with heap:=h }) hfr O.fr (fun b o q=>PySem.W.of_hideAll _ q) hl hx fun h' t x1 x2 x3 x4=>?_
 have notIn:∀ b o,X.s₀.heap.get? b=some o->b∉L2.frs X.outer->b∉L2.frs (X.env::X.outer):=fun b o e nb z=>by
  rw [<- O.stk] at z
  rcases O.frs.mp z with q | q
  ·exact I.oldNe e q
  ·exact nb q
 have hokB:=I.hidHok
 rw [O.stk] at hokB
 refine ⟨I.os,I.bare,⟨_,t,x1,hokB,fun b o e n nb=>?_,fun b o e nb=>?_⟩,fun b o e n hb=>?_,fun b o e n=>I.base.free b o e n (noEx b),I.base.tups,I.base.frzs,I.base.tbls⟩
 ·exact PySem.W.hideAll_get _ (I.base.keep b o e n nb (noEx b)) (notIn b o e nb)
 ·obtain ⟨o',e'⟩:=I.base.there b o e (noEx b)
  exact ⟨o',PySem.W.hideAll_get _ e' (notIn b o e nb)⟩
 ·obtain ⟨sl,e1⟩:=I.base.slot b o e n hb (noEx b)
  obtain ⟨_,o2,e2,hd⟩:=I.funs.mem hb
  rw [e1] at e2
  cases e2
  obtain ⟨sl2,e3⟩:=x4 b _ (hx.keeps b _ e1) hd
  exact ⟨sl2,e3⟩
theorem Fly.on (I:Inv X pins σ H s)(O:Own X)(Y:Fly X.prog X.w X.stack H s a cls H' s') :
  wpAny (model X.prog X.w) X.A (leaving X.env (.ref a)) (fun _ s''=>Fly X.prog X.w X.outer X.H₀ X.s₀ a cls H' s'') E s':=by
 obtain ⟨B,t,hfl,hokB,kp,th⟩:=Y.ex
 have hfr:=I.ok.frames
 rw [O.stk] at hfr hfl
 have noEx:∀ b,b∉X.ex:=fun b z=>by
  rw [O.ex] at z
  cases z
 have notIn:∀ b o,X.s₀.heap.get? b=some o->b∉L2.frs X.outer->b∉L2.frs X.stack:=fun b o e nb z=>by
  rcases O.frs.mp z with q | q
  ·exact I.oldNe e q
  ·exact nb q
 refine wpAny_leaves_onW hfr O.fr hfl fun h' x1 x2=>?_
 refine ⟨Y.os.trans I.os,Y.bare,⟨B,t,x1,hokB,fun b o e n nb=>kp b o (I.base.keep b o e n nb (noEx b)) (I.base.free b o e n (noEx b)) (notIn b o e nb),fun b o e nb=>?_⟩,fun b o e n hb=>?_,fun b o e n=>?_,
  fun b xs q=>Y.tups b xs (I.base.tups b xs q),fun b o u q=>Y.frzs b o u (I.base.frzs b o u q),fun b ps q=>?_⟩
 ·obtain ⟨o',e'⟩:=I.base.there b o e (noEx b)
  exact th b o' e' (notIn b o e nb)
 ·obtain ⟨sl,e1⟩:=I.base.slot b o e n hb (noEx b)
  obtain ⟨_,o2,e2,hd⟩:=I.funs.mem hb
  rw [e1] at e2
  cases e2
  obtain ⟨sl2,e3⟩:=Y.slot b _ e1 (I.base.free b o e n (noEx b)) (O.frs.mpr (.inr hb))
  obtain ⟨sl3,e4⟩:=x2 b _ e3 hd
  exact ⟨sl3,e4⟩
 ·obtain ⟨o',e'⟩:=I.base.there b o e (noEx b)
  exact Y.free b o' e' (I.base.free b o e n (noEx b))
 ·obtain ⟨m1,e1⟩:=I.base.tbls b ps q
  obtain ⟨m2,e2⟩:=Y.tbls b _ e1
  exact ⟨m1++m2,by rw [e2,Array.append_assoc]⟩
end
abbrev Bq:List Value:=[.type "ValueError",.type "Exception",.type "BaseException",.type "object"]
set_option genInjectivity false in
structure Exc (K:PySem.W.Frag)(mg:Str->Option Value)(x:Str)(C:Addr):Prop where
 mg:mg x=some (.ref C)
 is:PySem.W.excIn K C Bq "ValueError.__new__" = true
theorem Exc.own {K:PySem.W.Frag}{mg:Str->Option Value}{x:Str}{C:Addr}{h:Heap}(c:Exc K mg x C)(X:K.In h):OwnCls x C Bq "ValueError.__new__" mg h:=by
 refine ⟨c.mg,?_⟩
 have q:=c.is
 unfold PySem.W.excIn at q
 split at q
 ·rename_i dd cd sl ho
  split at q
  ·rename_i C' bm k0 k1 k2 k3 n k5 hm hs
   simp only [beq_iff_eq,Bool.not_eq_true',Bool.and_eq_true] at q
   obtain ⟨⟨⟨⟨⟨g1,g2⟩,g3⟩,g4⟩,g5⟩,g6⟩:=q
   subst g1 g2
   obtain ⟨nm,bs,mro,ns,qn,hd,sn,sub,ab,col,del⟩:=cd
   have hsl:sl = #[k0,k1,k2,k3,some (.builtin "ValueError.__new__"),k5]:=by
    cases sl with
    | mk l =>
     have hs':l=_:=hs
     rw [hs']
   have hm':mro=_:=hm
   have g3':del=false:=g3
   subst hsl hm' g3'
   refine ⟨bm,ns,nm,qn,bs,hd,sn,sub,ab,col,dd,k0,k1,k2,k3,k5,h.nsMap ns,X _ _ ho,?_,?_,?_⟩
   ·exact .of_isNs (PySem.W.isNs_of_in X g5)
   ·exact PySem.W.nsMap_none_of_in X g5 g6
   ·exact PySem.W.tail_of_in X g4
  ·cases q
 ·cases q
def Lc (E:Value->Hp->Prop)(C:Addr)(t:TA):TS:=fun _ σ H=>t σ H fun vs H1=>vs.length<=sizeLine∧E (.ref C) H1
theorem fC {x:Str}{C:Addr}{e₀:Expr}{rest:List Expr}{np cpos pos:Pos}{t:TA}{E:Value->Hp->Prop}(c:Exc X.K X.mg x C)(hc:X.calm=true)
  (hE:∀ (pins:List (Addr×Obj)) (σ:St) (H:Hp) (s:Shared) (h:Heap) (a:Addr) (args:List Value),Inv X pins σ H s->Heap.MadeExcOf s.heap h a (.ref C) args->E (.ref C) H->X.xe (.ref a) { s with heap:=h })
  (ha:PA X (e₀::rest) t) (hg:Gl X x:=by rfl) (hd:(x==("__debug__" : Str))=false:=by decide)
  (he:starEach (e₀::rest) X.env=(false,eval e₀ X.env)::starEach rest X.env:=by rfl) (hpl:(backTo cpos (starEach rest X.env)).any (·.1)=false:=by rfl) :
  PS X (.Raise (some (.Call (.Name x np) (e₀::rest) [] cpos)) none pos) (Lc E C t):=by
 intro pins s σ H D I h
 have O:=c.own I.mod.kin
 obtain ⟨tl,N,nm,q,bs,hdct,sn,sub,ab,col,dd,k0,k1,k2,k3,k5,mN,hC,hN,hni,T⟩:=O.obj
 refine wpAny_Raise_call_subT (C:=C) (nm:=nm) (q:=q) (N:=N) (bs:=bs) (bm:=tl) (hdct:=hdct) (sn:=sn) (sub:=sub) (ab:=ab) (col:=col) (dd:=dd) (k0:=k0) (k1:=k1) (k2:=k2) (k3:=k3) (k5:=k5) PySem.F.excBase_ValueError (mN:=mN)
  (T.hasType (by decide +kernel)) (I.ok.hd hc) (by rw [he];show (false||(backTo cpos (starEach rest X.env)).any (·.1))=false;rw [hpl];rfl) hni (nZ I hg c.mg ⟨rfl,?_⟩ hd)
 have hA:=ha cpos pins s σ H _ I h
 rw [he] at hA ⊢
 refine Calls.evalArgs_plain (thn hA fun us s2 ⟨vs,H2,I2,r2,hz,q2⟩=>?_)
 exact ⟨rfl,by rw [<- r2.length];exact hz,I2.bk _ _ hC,hN.keeps I2.bk,T.keeps I2.bk,fun h' e hx=>hE pins σ H2 s2 h' e us I2 hx q2⟩
section
variable {P:Program}{w:World}{K:PySem.W.Frag}{mg:Str->Option Value}{base:Heap}{N:List Str}{qual:Str}{scope:Scope}{f:Addr}{cdv:Value}{A:Around}{outer:List Env}{s:Shared}{H:Hp}{E:XK}
theorem Nl {CX:CXT}:Own (nL CX P w K mg base N qual scope f cdv A outer s H E):=⟨rfl,rfl,rfl⟩
theorem oT:jH (CX1 P w) (nL (CX1 P w) P w K mg base N qual scope f cdv A outer s H E) E:=fun pins σ H1 s1 e s' I h=>by
 obtain ⟨a,cls,H',rfl,Y,q⟩:=h
 exact thn (Fly.on I Nl Y) fun _ s'' Z=>⟨a,cls,H',rfl,Z,q⟩
theorem iB {C:Addr}{pins:List (Addr×Obj)}{σ:St}{H1:Hp}{s1:Shared}{h:Heap}{a:Addr}{args:List Value}(I:Inv (nL (CX1 P w) P w K mg base N qual scope f cdv A outer s H E) pins σ H1 s1)(hx:Heap.MadeExcOf s1.heap h a (.ref C) args)(q:E (.ref C) none H1) :
 (nL (CX1 P w) P w K mg base N qual scope f cdv A outer s H E).xe (.ref a) { s1 with heap:=h }:=thn (Fly.raised I Nl hx) fun _ s'' Z=>⟨a,.ref C,H1,rfl,Z,q⟩
theorem bU {X:Cx}:jH (CX1 P w) X E0:=fun _ _ _ _ _ _ _ h=>by
 obtain ⟨_,_,_,_,_,q⟩:=h
 exact q.elim
theorem Fun.okX {x qual:Str}{st:Stmt}{f:Addr}{fd:FuncData}{N ps:List Str}{k:Nat}{sp:Sp}(F:Fun K x qual st f fd)(S:aX N ps (aE st))(len:∀ vs H Q E,sp vs H Q E->vs.length=ps.length)
  (hbody:∀ (cdv:Value) (A:Around) (outer:List Env) (s:Shared) (H:Hp) (vs:List V) (Q:VK) (E:XK),fR k (A.deeper (envOfC qual (aE st) s.heap.objs.size f cdv))->sp vs H Q E ->
   ∃ t,PSs (nL (CX1 P w) P w K mg base N qual (aE st) f cdv A outer s H E) (aS st) t∧t { nx:=fun _ H'=>Q .non H',rt:=Q } (lA N vs) H):cT P w K mg base (CX1 P w) (k+1) f fd ps sp:=by
 obtain ⟨oc,od,kV,doc,pm,an,cdv,ct,osl,rfl,lk,hcd⟩:=F.ex
 exact Jm lk hcd S len fun A outer s H vs Q E hr hsp=>hbody cdv A outer s H vs Q E hr hsp
end
end L2
namespace L2
open PySem PySem.Spec PyProof.Rows
def XP (X:Cx)(pins:List (Addr×Obj))(R:St->Value->Hp->Prop)(e:Value)(s':Shared):Prop :=
 ∃ a cls σ' H s1 H',e = .ref a∧Inv X pins σ' H s1∧Fly X.prog X.w X.stack H s1 a cls H' s'∧R σ' cls H'
abbrev TTy:=kL->(St->Value->Hp->Prop)->St->Hp->Prop
def PTy (X:Cx)(st:List Stmt)(t:TTy):Prop :=
 ∀ (pins:List (Addr×Obj)) (s:Shared) (σ:St) (H:Hp) (D:kL) (R:St->Value->Hp->Prop),Inv X pins σ H s->t D R σ H->wpAny (model X.prog X.w) X.A (execs st X.env) (SP X pins D) (XP X pins R) s
section
variable {X:Cx}
abbrev TH:=kL->St->Value->Hp->Prop
def PH (X:Cx)(hs:List ExceptHandler)(t:TH):Prop :=
 ∀ (pins:List (Addr×Obj)) (σ:St) (H:Hp) (s:Shared) (a:Addr) (cls:Value) (H':Hp) (s':Shared) (D:kL),Inv X pins σ H s->Fly X.prog X.w X.stack H s a cls H' s'->t D σ cls H' ->
  wpAny (model X.prog X.w) X.A (handleBy (.ref a) X.env hs) (SP X pins D) X.xe s'
end
end L2
namespace L2
open PySem PySem.Spec PyProof.Rows
namespace RV
section
variable {prog:Program}{w:World}{A:Around}{E:Value->Shared->Prop}{s:Shared}
end
end RV
section
variable {X:Cx}
theorem rN:∀ (x:List Nat) (ls:List (List Nat)),risingS (tx x) (ls.map tx)=true->(∀ y∈ls,¬ y<x)∧ls.Pairwise (fun a b=>¬ b<a)
 | x,[],_=>⟨fun _ h=>(by cases h),.nil⟩
 | x,y::ls,h=>by
  have h':(!ltCps (tx y).cps.toList (tx x).cps.toList&&risingS (tx y) (ls.map tx))=true:=h
  rw [Bool.and_eq_true,eJ,eJ,ltCps_eq] at h'
  obtain ⟨a,b⟩:=rN y ls h'.2
  have h1:¬ y<x:=by simpa using h'.1
  refine ⟨fun z hz=>?_,List.pairwise_cons.mpr ⟨a,b⟩⟩
  rcases List.mem_cons.mp hz with rfl | hz
  ·exact h1
  ·exact Wd.Qc h1 (a z hz)
theorem qI:∀ (ls:List (List Nat)),sortedS (ls.map tx)=true->ls.Pairwise (fun a b=>¬ b<a)
 | [],_=>.nil
 | x::ls,h=>List.pairwise_cons.mpr (rN x ls h)
theorem mM:∀ {us:List Value} {ss:List Str},StrsAre us ss->bX ((ss.map fun x=>x.cps.toList).map T) us
 | _,_,.nil=>.nil
 | _,_,.cons x t h=>.cons ⟨t,by show Value.str x t=Value.str (tx x.cps.toList) t;rw [iL]⟩ (mM h)
end
end L2
namespace L2
open PySem PySem.Spec PyProof.Rows
def nub:List (List Nat)->List (List Nat)->List (List Nat)
 | acc,[]=>acc
 | acc,l::ls=>if l∈acc then nub acc ls else nub (acc++[l]) ls
def eT (ls:List (List Nat)):Nat->List (List Nat)
 | 0=>[]
 | i+1=>if ls.getD i []∈eT ls i then eT ls i else eT ls i++[ls.getD i []]
theorem jO (ls:List (List Nat)):∀ i,(eT ls i).length<=i
 | 0=>Nat.le_refl _
 | i+1=>by
  have h:=jO ls i
  rw [eT]
  split
  ·omega
  ·rw [List.length_append,List.length_singleton]
   omega
theorem mU (ls:List (List Nat)):∀ i,(eT ls i).Nodup
 | 0=>List.nodup_nil
 | i+1=>by
  have h:=mU ls i
  rw [eT]
  split
  ·exact h
  ·rename_i hn
   refine List.nodup_append.mpr ⟨h,by simp,fun a ha b hb e=>?_⟩
   have hb':b=ls.getD i []:=by simpa using hb
   rw [e,hb'] at ha
   exact hn ha
theorem lY (ls:List (List Nat))(x:List Nat):∀ i,i<=ls.length->(x∈eT ls i↔x∈ls.take i)
 | 0,_=>by simp [eT]
 | i+1,hi=>by
  have h:=lY ls x i (by omega)
  have e:ls.take (i+1)=ls.take i++[ls.getD i []]:=by
   rw [List.take_add_one,List.getD_eq_getElem?_getD,List.getElem?_eq_getElem (by omega)]
   rfl
  rw [e,List.mem_append,eT]
  split
  ·rename_i hm
   rw [h]
   constructor
   ·exact .inl
   ·rintro (q | q)
    ·exact q
    ·have q':x=ls.getD i []:=by simpa using q
     rw [q',<- lY ls _ i (by omega)]
     exact hm
  ·rw [List.mem_append,h]
def gQ (ls:List (List Nat)):List (List Nat):=eT ls ls.length
theorem oP (ls:List (List Nat)):(gQ ls).Nodup:=mU ls _
theorem gX (ls:List (List Nat))(x:List Nat):x∈gQ ls↔x∈ls:=by
 rw [gQ,lY ls x _ (Nat.le_refl _),List.take_length]
namespace SE
section
variable {prog:Program}{w:World}{A:Around}{R:Result->Shared->Prop}{J:Addr}{fp wr:List Addr}{G:Array GenState->Array GenState->Prop}{n:Nat}{P:Nat->Value->Prop}{St:Nat->Shared->Prop}
abbrev Has (prog:Program)(w:World)(h:Heap)(D:Addr)(ms:List (List Nat)):Prop:=h.SetOf (PySem.strKind prog w) D (fun x=>decide (x.cps.toList∈ms)) ms.length
theorem Has.at {h h':Heap}{D:Addr}{ms:List (List Nat)}(x:Has prog w h D ms)(k:∀ o,h.get? D=some o->h'.get? D=some o):Has prog w h' D ms:=by
 obtain ⟨o,es,ep,tb,ho,r⟩:=x
 exact ⟨o,es,ep,tb,k o ho,r⟩
theorem loop (W:WalksS prog w A.in1 J fp wr G n P St){D:Addr}(hD:D∉fp)(ls:List (List Nat))(hv:∀ i v,P i v->∃ t,v=Value.str (tx (ls.getD i [])) t)(hn:n+1<scanBound) :
  ∀ (k i:Nat) (s:Shared),n-i=k->i<=n->St i s->Has prog w s.heap D (eT ls i) ->
   (∀ s',Moved (D::wr) G s s'->Has prog w s'.heap D (eT ls n)->R (.ok (.ret .none)) s')->codeAny (model prog w) A (.builtin "set.update.loop" ⟨[.ref D,.ref J],[]⟩) R s:=by
 have hDw:D∉wr:=fun z=>hD (W.sub _ z)
 have up:∀ b∈wr,b∈D::wr:=fun b hb=>.tail _ hb
 intro k
 induction k with
 | zero =>
  intro i s hk hi st hs hR
  obtain rfl:i=n:=by omega
  refine codeAny_builtin PyProof.Rows.F.entry_set_update_loop ?_
  rw [Around.under_plainId PyProof.Rows.F.plain_set_update_loop]
  refine wpAny_bind (m:=pyNext (.ref J)) (W.done s _ _ st fun s2 mv=>?_)
  exact (show wpAny _ A.in1 (ret Value.none) _ _ s2 from wpAny_pure (hR s2 (mv.mono up) (hs.at fun o e=>mv.heap D o hDw e)))
 | succ k ih =>
  intro i s hk hi st hs hR
  have hlt:i<n:=by omega
  refine codeAny_builtin PyProof.Rows.F.entry_set_update_loop ?_
  rw [Around.under_plainId PyProof.Rows.F.plain_set_update_loop]
  refine wpAny_bind (m:=pyNext (.ref J)) (W.item i s _ _ hlt st fun v s2 pv st2 mv=>?_)
  obtain ⟨t,rfl⟩:=hv i v pv
  have hs2:=hs.at fun o e=>mv.heap D o hDw e
  refine wpAny_bind (m:=holding [Value.str (tx (ls.getD i [])) t] (setAdd D (.str (tx (ls.getD i [])) t))) (wpAny_holding ?_)
  unfold setAdd
  refine wpAny_holding (wpAny_bind ((PySem.strKind prog w).pyHash (k:=tx (ls.getD i [])) (strKind_is _ _ _ _) ?_))
  have hl:=jO ls i
  refine wpAny_setAddHashed_of (knd:=PySem.strKind prog w) (s:={ s2 with toks:=s2.toks+1 }) (strKind_is _ _ _ _) rfl hs2 (by omega) fun h3 sb x3=>?_
  have x4:Has prog w h3 D (eT ls (i+1)):=by
   refine PyProof.Rows.SetOf_congr x3 (fun y=>?_) ?_
   ·rw [eT]
    split
    ·rename_i hm
     rw [Bool.eq_iff_iff,Bool.or_eq_true,decide_eq_true_iff,decide_eq_true_iff]
     constructor
     ·rintro (q | q)
      ·exact q
      ·rw [q,eJ]
       exact hm
     ·exact .inl
    ·rw [Bool.eq_iff_iff,Bool.or_eq_true,decide_eq_true_iff,decide_eq_true_iff,decide_eq_true_iff,List.mem_append,List.mem_singleton]
     constructor
     ·rintro (q | q)
      ·exact .inl q
      ·right
       rw [q,eJ]
     ·rintro (q | q)
      ·exact .inl q
      ·right
       rw [<- q,iL]
   ·rw [eJ,eT]
    by_cases hm:ls.getD i []∈eT ls i
    ·rw [if_pos hm,if_pos (decide_eq_true hm)]
    ·rw [if_neg hm,if_neg (by rw [decide_eq_false hm];exact Bool.false_ne_true),List.length_append]
     rfl
  refine wpAny_pure ⟨plainId_quiet PyProof.Rows.F.plain_set_update_loop _,ih (i+1) _ (by omega) hlt (W.frame _ s2 _ _ st2 (Nat.le_succ _) fun b hb o e=>(sb.2 b fun z=>hD (z▸hb)).trans e) x4 fun s5 m5 x5=>?_⟩
  refine hR s5 (Moved.trans W.gtrans ((mv.mono up).then_heap (Nat.le_succ _) fun b o hb e=>(sb.2 b fun z=>hb (z▸.head _)).trans e) m5) x5
variable {E:Value->Shared->Prop}{s:Shared}
theorem Hn {l:Addr}{its:Array Value}{ls:List (List Nat)}{Q:Value->Shared->Prop}(hh:A.handled=none)(hl:s.heap.IsList l its)(hv:∀ i v,its[i]?=some v->∃ t,v=Value.str (tx (ls.getD i [])) t)(hn:its.size+1<scanBound)
  (h:∀ (h':Heap) (tk:Nat),Has prog w h' s.heap.objs.size (eT ls its.size)->(∀ b o,s.heap.get? b=some o->h'.get? b=some o)->Q (.ref s.heap.objs.size) { s with heap:=h',toks:=tk }) :
  wpAny (model prog w) A (call (.type "set") [.ref l]) Q E s:=by
 obtain ⟨mc,mt,f0⟩:=F.called_set.mro
 have f1:=F.called_set.made;have f2:=F.called_set.sub;have f3:=F.called_set.notType;have f4:=F.called_set.canCreate;have f5:=F.typeCall_set_1 (.ref l)
 refine wpAny_call (codeAny_of_tree (show wpAny _ _ (callAny (.type "set") _) _ _ _ from wpAny_pure ⟨Code.quiet_builtin _ (by decide +kernel),codeAny_builtin F.entry_type_call ?_⟩))
 rw [Around.under_plain (weight_type_call_type "set" [.ref l] []) rfl]
 repeat (any_goals (first | wp_step | assumption))
 refine codeAny_mono (code_set_new_1 (.ref l) (E:=E) (Q₁:=fun ob s1=>∃ b:Bool,ob = .ref s.heap.objs.size∧s1 = { s with heap:=s.heap.push { cls:=.type "set",dict:=none,data:=.set #[] 0 (.fresh 0 0 b) } }) fun b=>⟨b,rfl,rfl⟩) fun r s1 hr=>?_
 cases r with
 | error e=>exact hr
 | ok fl =>
  cases fl with
  | ret ob =>
   obtain ⟨b,rfl,rfl⟩:=hr
   generalize hob:({ cls:=.type "set",dict:=none,data:=.set #[] 0 (.fresh 0 0 b) }:Obj)=ob
   have hD:(s.heap.push ob).get? s.heap.objs.size=some ob:=Heap.get?_push_size _ (by rw [<- hob];rfl)
   have hT:Shared.TypeIs { s with heap:=s.heap.push ob } (.ref s.heap.objs.size) "set" := ⟨_,hD,by rw [<- hob]⟩
   have f6:=F.called_set.init.lookup;have f7:=F.called_set.init.bind (.ref s.heap.objs.size)
   repeat (any_goals (first | wp_step | assumption))
   refine codeAny_mono (codeAny_call_builtin (R:=wants (fun r s2=>r = .none∧∃ h' tk,s2 = { s with heap:=h',toks:=tk }∧Has prog w h' s.heap.objs.size (eT ls its.size)∧∀ b o,s.heap.get? b=some o->h'.get? b=some o) E)
    F.called_set.init.plain F.entry_set_init (check_set_init_1 hT ?_)) fun r2 s2 hr2=>?_
   ·obtain ⟨⟨oc,od,odt,osl⟩,hol,hcl,nl,hdl⟩:=id hl
    simp only at hcl hdl
    subst hcl hdl
    have hol':(s.heap.push ob).get? l=some { cls:=.type "list",dict:=od,data:=.seq its nl,slots:=osl }:=Heap.get?_push_of_some _ hol
    have f8:=F.sub_list_set;have f9:=F.sub_list_frozenset
    have f10:(Value.type "list" == Value.type "dict")=false:=by decide
    have hl1:(s.heap.push ob).IsList l its:=⟨_,hol',rfl,nl,rfl⟩
    subst hob
    unfold Builtin.«set.__init__» noKeywords Builtin.Frozenset.updateFrom
    generalize hPI:pyIter=PI
    wp_walk
    subst hPI
    refine wpAny_pyIter_list hl1 ?_
    refine wpAny_bind (wpAny_runValue ?_)
    have hlt:l<s.heap.objs.size:=Heap.lt_size hol
    have hh3:A.in1.in1.in1.handled=none:=by simp [hh]
    have hsz:(s.heap.push { cls:=.type "set",dict:=none,data:=.set #[] 0 (.fresh 0 0 b) }).objs.size=s.heap.objs.size+1:=Heap.size_push _ _
    have hne:l≠(s.heap.push { cls:=.type "set",dict:=none,data:=.set #[] 0 (.fresh 0 0 b) }).objs.size:=by rw [hsz];exact Nat.ne_of_lt (Nat.lt_succ_of_lt hlt)
    have hfp:s.heap.objs.size∉[(s.heap.push { cls:=.type "set",dict:=none,data:=.set #[] 0 (.fresh 0 0 b) }).objs.size,l]:=by
     rw [hsz]
     intro z
     rcases List.mem_cons.mp z with e | e
     ·exact Nat.ne_of_lt (Nat.lt_succ_self _) e
     ·exact Nat.ne_of_gt hlt (List.mem_singleton.mp e)
    refine loop ((Walks.list hh3 _ l hne its).toS) (D:=s.heap.objs.size) hfp ls hv hn (its.size-0) 0 _ (by omega) (Nat.zero_le _) ⟨⟨_,Heap.get?_push_size _ rfl,rfl,rfl⟩,hl1.push _⟩ ?_ fun s3 mv x3=>?_
    ·have hg:((s.heap.push { cls:=.type "set",dict:=none,data:=.set #[] 0 (.fresh 0 0 b) }).push { cls:=.type "list_iterator",data:=.fields #[.ref l,.int 0 0] }).get? s.heap.objs.size=some { cls:=.type "set",dict:=none,data:=.set #[] 0 (.fresh 0 0 b) }:=Heap.get?_push_of_some _ hD
     exact PyProof.Rows.SetOf_congr ((PyProof.Rows.setObjOf_fresh (knd:=PySem.strKind prog w) b).setOf hg (by unfold scanBound;omega)) (fun _=>rfl) rfl
    ·obtain ⟨h3,g3,d3,tk3,os3⟩:=s3
     obtain rfl:g3=s.gens:=mv.gens
     obtain rfl:d3=s.drawn:=mv.drawn
     obtain rfl:os3=s.os:=mv.os
     refine wpAny_pure (show wpAny _ _ (ret Value.none) _ _ _ from wpAny_pure ⟨rfl,h3,tk3,rfl,x3,fun c o e=>?_⟩)
     have hc:=Heap.lt_size e
     exact mv.heap c o (show c∉[s.heap.objs.size,(s.heap.push { cls:=.type "set",dict:=none,data:=.set #[] 0 (.fresh 0 0 b) }).objs.size] by
      rw [hsz]
      intro z
      rcases List.mem_cons.mp z with e | e
      ·exact Nat.ne_of_lt hc e
      ·exact Nat.ne_of_lt (Nat.lt_succ_of_lt hc) (List.mem_singleton.mp e)) (Heap.get?_push_of_some _ (Heap.get?_push_of_some _ e))
   ·cases r2 with
    | error e=>exact hr2
    | ok fl2 =>
     cases fl2 with
     | ret r =>
      obtain ⟨rfl,h3,tk,rfl,x3,k3⟩:=hr2
      repeat (any_goals (first | wp_step | assumption))
      exact h _ _ x3 k3
     | _=>exact hr2.elim
  | _=>exact hr.elim
end
end SE
def Dr (P:Program)(w:World)(D:Addr)(ms:List (List Nat)):HO:=.ext fun h=>SE.Has P w h D ms
section
variable {X:Cx}
theorem Eh {ls:List (List Nat)}{us:List Value}(r:bX (ls.map T) us){i:Nat}{v:Value}(h:us[i]?=some v):∃ t,v=Value.str (tx (ls.getD i [])) t:=by
 have hl:=r.length
 rw [List.length_map] at hl
 have hi:i<ls.length:=by have:=(List.getElem?_eq_some_iff.mp h).1;omega
 obtain ⟨u,h1,h2⟩:=r.get (i:=i) (x:=T ls[i]) (by rw [List.getElem?_map,List.getElem?_eq_getElem hi];rfl)
 rw [h] at h1
 cases h1
 rw [List.getD_eq_getElem?_getD,List.getElem?_eq_getElem hi]
 exact h2
theorem Bu (hc:X.calm=true):eO X (.type "set") (fun xs H Q=>∃ (p:Addr) (ls:List (List Nat)),xs=[.ref p]∧SqL X.K H p (ls.map T)∧ls.length+1<4096∧∀ D,H D=none->Q (.ref D) (upd H D (Dr X.prog X.w D (gQ ls)))):=by
 intro pins s σ H xs us Q I r h
 obtain ⟨p,ls,rfl,hq,hz,q⟩:=h
 obtain ⟨u,rfl,ru⟩:=fV r
 cases ru
 obtain ⟨its,rv,pl,_⟩:=I.list hq
 have hlen:=rv.length
 rw [List.length_map] at hlen
 refine SE.Hn (I.ok.hd hc) pl.isList (ls:=ls) (fun i v e=>Eh rv (by simpa using e)) (by rw [List.size_toArray];unfold scanBound;omega) fun h' tk x k=>?_
 have e:eT ls its.toArray.size=gQ ls:=by rw [List.size_toArray,<- hlen];rfl
 rw [e] at x
 have hf:H s.heap.objs.size=none:=I.hok.fresh (Nat.le_refl _)
 refine ⟨.ref s.heap.objs.size,_,I.laid (t':=tk) k (Nat.le_refl _) (o:=Dr X.prog X.w s.heap.objs.size (gQ ls)) ?_,rfl,q _ hf⟩
 refine ⟨x,?_,fun h1 h2 x1 kk=>x1.at kk⟩
 obtain ⟨o,_,_,_,ho,_⟩:=x
 exact ⟨o,ho⟩
theorem Al:eO X (.builtin "len") (fun xs H Q=>∃ (D:Addr) (ms:List (List Nat)),xs=[.ref D]∧H D=some (Dr X.prog X.w D ms)∧Q (.int (ms.length:Nat)) H):=by
 intro pins s σ H xs us Q I r h
 obtain ⟨D,ms,rfl,hD,q⟩:=h
 obtain ⟨u,rfl,ru⟩:=fV r
 cases ru
 obtain ⟨⟨o,es,ep,tb,ho,hex,hd,_,_,hb,hf,hn⟩,_⟩:=(show cG X.prog X.w H s.heap D (Dr X.prog X.w D ms) from I.hok D _ hD)
 have hb':es.size<4096:=hb
 exact call_len_set ho hex hd hf (by omega) ⟨.int (ms.length:Nat),H,I.tok _,⟨s.toks+1,by rw [<- hn]⟩,q⟩
end
end L2
namespace L2
open PySem PySem.Spec PyProof.Rows
section
variable {X:Cx}
namespace LM
end LM
theorem wW (K:PySem.W.Frag)(hK:X.K=K):eO X (.builtin "len") (fun xs H Q=>∃ p ys,xs=[.ref p]∧(SqL K H p ys∨SqT K H p ys)∧Q (.int ys.length) H):=by
 subst hK
 exact aP
theorem Bz (K:PySem.W.Frag)(hK:X.K=K):IxR X (Pg K):=by
 subst hK
 exact cX
end
end L2
namespace L2
open PySem PySem.Spec PyProof.Rows
def Itx (l:List Nat):It:=⟨fun i _=>i<l.length,fun i H x H'=>H'=H∧∃ c,l[i]?=some c∧x=T [c],fun i _=>l.length<=i⟩
theorem At {P:Program}{w:World}{K:PySem.W.Frag}{tg:Expr}{it:Addr}{ty:String}{l:List Nat}{t:Tok}(hty:ty = "str_ascii_iterator" ∨ ty = "str_iterator")
  (W:∀ A:Around,A.handled=none->Walks P w A it [it] [it] (tx l).cps.size (SignAt (tx l)) (fun i h=>h.IsStrIter it ty (tx l) t i)):pA P w K tg (Itx l) [it] it (fun i h=>h.IsStrIter it ty (tx l) t i) where
 mem:=by simp
 obj:=fun i h st b hb=>by
  have e:b=it:=by simpa using hb
  subst e
  obtain ⟨o,e,c,d⟩:=st
  exact ⟨o,e,fun v z=>by rw [d] at z;cases z⟩
 keep:=fun i h h' st k=>by
  obtain ⟨o,e,r⟩:=st
  exact ⟨o,k it (by simp) o e,r⟩
 item:=by
  intro X hP hw hK hc i pins s σ H E I hf st hg
  subst hP hw hK
  obtain ⟨f0,f1,f2,f3,f4,f5⟩:=hf it (by simp)
  refine (W X.A (I.ok.hd hc)).item i s _ _ (by have:i<l.length:=hg;simpa [tx] using this) st fun v h' tk hv st' kk=>?_
  obtain ⟨c,u,hcu,rfl⟩:=hv
  have I1:Inv X pins σ H { s with heap:=h',toks:=tk }:=I.turned (fun b o hb e=>kk b o (by simpa using hb) e) f0 f1 f3 f4 f5
  obtain ⟨o,e,cl,d⟩:=id st'
  refine ⟨_,rfl,zD (s:={ s with heap:=h',toks:=tk }) (n:=ty) e cl d (by rcases hty with rfl | rfl <;> decide) ⟨T [c],H,I1,⟨u,rfl⟩,⟨rfl,c,?_,rfl⟩,st',fun b hb=>(hf b hb).1⟩⟩
  simpa [tx] using hcu
 done:=by
  intro X hP hw hK hc i pins s σ H E I hf st hg
  subst hP hw hK
  obtain ⟨f0,f1,f2,f3,f4,f5⟩:=hf it (by simp)
  have hn:l.length<=i:=hg
  obtain ⟨o,e,cl,d⟩:=id st
  rcases hty with rfl | rfl
  ·exact wpAny_pyNext_ascii_end (I.ok.hd hc) st (by simpa [tx] using hn) fun h' eb=>⟨rfl,I.turned (t':=s.toks) (fun b o hb e=>eb b o hb e) f0 f1 f3 f4 f5⟩
  ·exact wpAny_pyNext_wide_end (I.ok.hd hc) st (by simpa [tx] using hn) fun h' eb=>⟨rfl,I.turned (t':=s.toks) (fun b o hb e=>eb b o hb e) f0 f1 f3 f4 f5⟩
 self:=fun A i s Q E st h=>by
  rcases hty with rfl | rfl
  ·exact wpAny_pyIter_striter_ascii st h
  ·exact wpAny_pyIter_striter_wide st h
def Pn (tl:TE):TI:=fun σ H R=>tl σ H fun x H1=>∃ l,x=T l∧R (Itx l) H1
section
variable {X:Cx}{tg:Expr}
theorem yI {e:Expr}{tl:TE}(hl:PE X e tl):PI X tg e (Pn tl):=by
 intro pins s σ H R I h
 refine thn (hl pins s σ H _ I h) fun v s1 ⟨x,H1,I1,r1,q1⟩=>?_
 obtain ⟨l,rfl,q⟩:=q1
 obtain ⟨t,rfl⟩:=r1
 have fin:∀ (ty:String) (o:Obj),(ty = "str_ascii_iterator" ∨ ty = "str_iterator")->(∀ A:Around,A.handled=none->Walks X.prog X.w A s1.heap.objs.size [s1.heap.objs.size] [s1.heap.objs.size] (tx l).cps.size (SignAt (tx l)) (fun i h=>h.IsStrIter s1.heap.objs.size ty (tx l) t i)) ->
   (s1.heap.push o).IsStrIter s1.heap.objs.size ty (tx l) t 0->PIE X pins σ tg R (.ref s1.heap.objs.size) { s1 with heap:=s1.heap.push o }:=fun ty o hty W st=>by
  refine ⟨s1.heap.objs.size,[s1.heap.objs.size],_,_,H1,rfl,I1.kept (t':=s1.toks) fun b o e=>Heap.get?_push_of_some _ e,At hty W,st,fun b hb=>?_,q⟩
  have e:b=s1.heap.objs.size:=by simpa using hb
  subst e
  exact I1.fpOk (Nat.le_refl _) (I1.hok.fresh (Nat.le_refl _))
 cases ha:(tx l).cps.all (· < 128)
 ·exact wpAny_pyIter_wide ha (fin "str_iterator" _ (.inr rfl) (fun A hA=>Walks.strWide hA _ (tx l) t) ⟨_,Heap.get?_push_size _ rfl,rfl,rfl⟩)
 ·exact wpAny_pyIter_ascii ha (fin "str_ascii_iterator" _ (.inl rfl) (fun A hA=>Walks.strAscii hA _ (tx l) t) ⟨_,Heap.get?_push_size _ rfl,rfl,rfl⟩)
end
theorem Gb {l:List Nat}{g:TG}{tb:TS}{D:kL}{σ:St}{H:Hp}(Pv:Nat->St->Hp->Prop)(h0:Pv 0 σ H)
  (hs:∀ i c σ H,l[i]?=some c->Pv i σ H->g (T [c]) σ H fun σ2 H2=>tb { D with nx:=Pv (i+1),ct:=Pv (i+1),bk:=D.nx } σ2 H2) (hd:∀ σ H,Pv l.length σ H->D.nx σ H) :
  ∃ W:Nat->Nat->St->Hp->Prop,(∃ m,W 0 m σ H)∧∀ i m σ H,W i m σ H ->
   ((Itx l).stop i H∧D.nx σ H)∨((Itx l).go i H∧∃ N:St->Hp->Prop,(∀ σ' H',N σ' H'->∃ m',m'<m∧W (i+1) m' σ' H')∧∀ x H',(Itx l).yld i H x H'->g x σ H' fun σ2 H2=>tb { D with nx:=N,ct:=N,bk:=D.nx } σ2 H2):=by
 refine ⟨fun i m σ H=>m=l.length-i∧i<=l.length∧Pv i σ H,⟨l.length,by simp,Nat.zero_le _,h0⟩,?_⟩
 rintro i m σ H ⟨rfl,hi,p⟩
 by_cases hlt:i<l.length
 ·refine .inr ⟨hlt,Pv (i+1),fun σ' H' p'=>⟨l.length-(i+1),by omega,rfl,hlt,p'⟩,fun x H' y=>?_⟩
  obtain ⟨rfl,c,hc,rfl⟩:=y
  exact hs i c σ _ hc p
 ·obtain rfl:i=l.length:=by omega
  exact .inl ⟨Nat.le_refl _,hd σ H p⟩
section
variable {X:Cx}
theorem vG:OpR X (compareOp .NotIn) (fun x y H Q=>∃ c,x=T [c]∧∃ l,y=T l∧Q (.bl (!decide (c∈l))) H):=by
 intro pins s σ H x y v u Q I rx ry h
 obtain ⟨c,e1,l,e2,q⟩:=h
 exact rR pins s σ H x y v u Q I rx ry ⟨tx [c],tx l,e1,e2,by rw [show tx [c]=⟨#[c]⟩ from rfl,StrLaws.found_one,eJ];exact q⟩
namespace RV
variable {prog:Program}{w:World}{A:Around}{E:Value->Shared->Prop}{s:Shared}
end RV
end
end L2
namespace L2
open PySem PySem.Spec PyProof.Rows
section
variable {P:Program}{w:World}{K:PySem.W.Frag}{mg:Str->Option Value}{base:Heap}
theorem Fun.okN {x qual:Str}{st:Stmt}{f:Addr}{fd:FuncData}{N ps:List Str}{k:Nat}{sp:Sp}(F:Fun K x qual st f fd)(S:aX N ps (aE st))(len:∀ vs H Q E,sp vs H Q E->vs.length=ps.length)
  (hbody:∀ (cdv:Value) (A:Around) (outer:List Env) (s:Shared) (H:Hp) (vs:List V) (Q:VK) (E:XK),fR k (A.deeper (envOfC qual (aE st) s.heap.objs.size f cdv))->sp vs H Q E ->
   ∃ t,PSs (nL (CX1 P w) P w K mg base N qual (aE st) f cdv A outer s H E).nox (aS st) t∧t { nx:=fun _ H'=>Q .non H',rt:=Q } (lA N vs) H):cT P w K mg base (CX1 P w) (k+1) f fd ps sp:=by
 obtain ⟨oc,od,kV,doc,pm,an,cdv,ct,osl,rfl,lk,hcd⟩:=F.ex
 refine Jm lk hcd S len fun A outer s H vs Q E hr hsp=>?_
 obtain ⟨t,h,q⟩:=hbody cdv A outer s H vs Q E hr hsp
 exact ⟨t,h.nox,q⟩
end
namespace EX
open PySem.W PySem.Calls PySem.Builtin PySem.Builtin.ObjectAttr PySem.Builtin.Getset_descriptor
variable {prog:Program}{w:World}{A:Around}{E:Value->Shared->Prop}{s:Shared}{K:PySem.W.Frag}{a C:Addr}
end EX
section
variable {X:Cx}
end
end L2
namespace L2
open PySem PySem.Spec PyProof.Rows
section
variable {X:Cx}{es:List Expr}{te:TE}{t:TA}
theorem Jz {c:Const}{j:Nat}{p:Pos}(ha:PE X (.Constant c j p) te)(hr:PA X es t):PA X (.Constant c j p::es) (oN te t):=aA ha hr rfl
theorem uX {x:Str}{p:Pos}(ha:PE X (.Name x p) te)(hr:PA X es t):PA X (.Name x p::es) (oN te t):=aA ha hr rfl
theorem Nc {a b:Expr}{o:Operator}{p:Pos}(ha:PE X (.BinOp a o b p) te)(hr:PA X es t):PA X (.BinOp a o b p::es) (oN te t):=aA ha hr rfl
theorem Pl {as:List Expr}{k}{p:Pos}(ha:PE X (.Tuple as k p) te)(hr:PA X es t):PA X (.Tuple as k p::es) (oN te t):=aA ha hr rfl
def Fq:List ((Int×Nat×Pos)×(Int×Nat×Pos)×Nat×Pos)->List Expr
 | []=>[]
 | ((i,j,p),(i',j',p'),k,q)::r=>.Tuple [.Constant (.int i) j p,.Constant (.int i') j' p'] k q::Fq r
def wK:List (Int×Int)->TA
 | []=>fun _ H Q=>Q [] H
 | (a,b)::r=>fun σ H Q=>∀ t,H t=none->wK r σ (upd H t (.tup [.int a,.int b])) fun vs H1=>Q (.ref t::vs) H1
theorem vP:∀ l:List ((Int×Nat×Pos)×(Int×Nat×Pos)×Nat×Pos),PA X (Fq l) (wK (l.map fun x=>(x.1.1,x.2.1.1)))
 | []=>aD
 | ((i,j,p),(i',j',p'),k,q)::r=>fun pos pins s σ H Q I h=>by
  have h0:PE X (.Tuple [.Constant (.int i) j p,.Constant (.int i') j' p'] k q) (Nd (oN (tC (.int i)) (oN (tC (.int i')) Oi))):=Mg (Jz aG (Jz aG aD))
  refine Pl (X:=X) h0 (vP r) pos pins s σ H Q I ⟨?_,fun t ht=>h t ht⟩
  have hs:sizeLine=16777216:=sizeLine_eq
  show 2<=sizeLine
  omega
theorem qV:∀ (l:List (Int×Int)) {σ:St} {H:Hp} {Q:List V->Hp->Prop},
  (∀ vs H1,vs.length=l.length->aN H H1->(∀ (j:Nat) (p:Int×Int),l[j]?=some p->∃ t,vs[j]?=some (.ref t)∧H1 t=some (.tup [.int p.1,.int p.2]))->Q vs H1)->wK l σ H Q
 | [],_,H,_,h=>h [] H rfl (aN.refl _) fun j p e=>by cases e
 | (a,b)::r,σ,H,Q,h=>fun t ht=>by
  refine qV r fun vs H1 hl hs hv=>h (.ref t::vs) H1 (by rw [List.length_cons,hl,List.length_cons]) (fun c o e=>hs c o (by rw [aI (aK e ht)];exact e)) fun j p e=>?_
  cases j with
  | zero =>
   have e':(a,b)=p:=by simpa using e
   subst e'
   exact ⟨t,rfl,hs t _ aC⟩
  | succ j =>
   obtain ⟨t',h1,h2⟩:=hv j p (by simpa using e)
   exact ⟨t',by simpa using h1,h2⟩
end
end L2
namespace L2
open PySem PySem.Spec PyProof.Rows
section
variable {X:Cx}{tg:Expr}
end
end L2
namespace L2
open PySem
section
variable {X:Cx}{N':List Str}{scope:Scope}{x:Str}{px:Pos}{elt iter cd:Expr}{pos:Pos}{te:TE}{tc:TT}{wi:TI}
theorem Cy (S:cU X.N N' X.env.scope scope x)(hc:X.calm=true)(hi:PI X (.Name x px) iter wi)(ht:∀ cl C s H fp,PT (bY X N' scope cl C s H fp) cd tc)(he:∀ cl C s H fp,PE (bY X N' scope cl C s H fp) elt te)
  (hs:∀ x,foldedSetIterable iter X.env x=pure x:=by intro _;rfl):PE X (.ListComp elt [⟨.Name x px,iter,[cd],0⟩] scope pos) (yE wi tc te) :=
 vR (at':=fun σ Q=>eQ tc te σ Q) S hc hi (fun cl C s H fp=>tT (ht cl C s H fp)) he (fun _ _ _ _ h=>h) hs
theorem uP {i:Nat}{y:Str}{py spos:Pos}(S:cU X.N N' X.env.scope scope x)(hc:X.calm=true)(hi:PI X (.Name x px) iter wi)(ht:∀ cl C s H fp,PT (bY X N' scope cl C s H fp) cd tc)(he:∀ cl C s H fp,PE (bY X N' scope cl C s H fp) elt te)
  (hN:X.N.Nodup) (hy:X.N[i]?=some y) (hyl:X.env.scope.names.lookup y=some .local)
  (hsw:swapsWith (.ListComp elt [⟨.Name x px,iter,[cd],0⟩] scope pos) (some (.Name y py)) spos.line X.env=pure true:=by rfl)
  (hs:∀ x,foldedSetIterable iter X.env x=pure x:=by intro _;rfl):PS X (.Assign [.Name y py] (.ListComp elt [⟨.Name x px,iter,[cd],0⟩] scope pos) spos) (Gq (yE wi tc te) (qX i)) :=
 mR (at':=fun σ Q=>eQ tc te σ Q) S hc hi (fun cl C s H fp=>tT (ht cl C s H fp)) he (fun _ _ _ _ h=>h) hN hy hyl hsw hs
end
section
variable {X:Cx}
end
theorem gL {α:Type}(p:α->Bool)(l:List α)(i:Nat)(v:α)(h:l[i]?=some v):(l.take (i+1)).filter p=(l.take i).filter p++(if p v then [v] else []):=by
 rw [List.take_add_one,h,List.filter_append]
 cases hp:p v <;> simp [hp]
theorem iN {α:Type}(p:α->Bool)(l:List α)(i:Nat):((l.take i).filter p).length<=i:=by
 have h1:=List.length_filter_le p (l.take i)
 rw [List.length_take] at h1
 omega
theorem qK (w:List Nat)(k:Nat):gG w none (some (k:Int))=w.take k:=by
 unfold gG
 rw [HT.fE,HT.fA,List.drop_zero,Nat.sub_zero]
 by_cases h:k<=w.length
 ·rw [Nat.min_eq_left h]
 ·rw [Nat.min_eq_right (by omega),List.take_length,List.take_of_length_le (by omega)]
end L2
set_option autoImplicit false
namespace SR
open PySem PyProof.Rows
def LtR (prog:Program)(w:World)(A:Around)(E:Value->Shared->Prop)(s:Shared)(κ:KeyKind)(kd:SortKind):Prop :=
 ∀ (st:SortSt) (x y:Keyed) (a b:κ.α) (Q:Option Bool->SortSt->Prop),kindOf st=kd->κ.keyOf x.1=some a->κ.keyOf y.1=some b->Q (some (κ.blt a b)) st->wpS (model prog w) A E s (lt' x y) Q st
theorem Ki {prog:Program}{w:World}{A:Around}{E:Value->Shared->Prop}{s:Shared}{κ:KeyKind}{kd:SortKind}
  (h:∀ (E:Value->Shared->Prop) (x y:Value) (a b:κ.α) (Q:Bool->Shared->Prop),κ.keyOf x=some a->κ.keyOf y=some b->Q (κ.blt a b) s->wpAny (model prog w) A (keyLt' kd x y) Q E s):LtR prog w A E s κ kd:=by
 intro st x y a b Q hk ha hb hq
 rw [lt'_eq];refine wpS_bind (wpS_get ?_);rw [hk]
 exact wpS_bind (wpS_lift (wpAny_attempt (h _ x.1 y.1 a b _ ha hb ⟨rfl,wpS_pure hq⟩)))
theorem zM {prog:Program}{w:World}{A:Around}{E:Value->Shared->Prop}{s:Shared}{κ:KeyKind}(hO:κ.OneLt):LtR prog w A E s κ oneType' :=
 Ki fun E x y a b Q ha hb hq=>by rw [keyLt'_oneType];exact hO prog w A E s x y a b ha hb hq
set_option genInjectivity false in
structure SB (kd:SortKind)(z:Array Keyed)(st:SortSt):Prop where
 prm:(arrOf st).Perm z
 knd:kindOf st=kd
 ffl:failedOf st=none
theorem SB.sz {kd:SortKind}{z:Array Keyed}{st:SortSt}(h:SB kd z st):(arrOf st).size=z.size:=h.prm.size_eq
theorem SB.put {kd:SortKind}{z:Array Keyed}{st:SortSt}(h:SB kd z st){xs:Array Keyed}(hp:xs.Perm (arrOf st)):SB kd z (setArr st xs):=⟨hp.trans h.prm,h.knd,h.ffl⟩
def Up (κ:KeyKind)(xs:Array Keyed)(l r:Nat):Prop:=∀ i j,l<=i->i<=j->j<r->κ.kle (KK κ xs i) (KK κ xs j)
def Dn (κ:KeyKind)(xs:Array Keyed)(l r:Nat):Prop:=∀ i j,l<=i->i<=j->j<r->κ.kle (KK κ xs j) (KK κ xs i)
set_option genInjectivity false in
structure Kp (lo:Nat)(st st':SortSt):Prop where
 low:∀ k,k<lo->(arrOf st')[k]?=(arrOf st)[k]?
 pen:pendingOf st'=pendingOf st
theorem Kp.rfl' {lo:Nat}{st:SortSt}:Kp lo st st:=⟨fun _ _=>rfl,rfl⟩
theorem Kp.tr {lo:Nat}{a b c:SortSt}(h:Kp lo a b)(h':Kp lo b c):Kp lo a c:=⟨fun k hk=>(h'.low k hk).trans (h.low k hk),h'.pen.trans h.pen⟩
theorem jN {lo i j:Nat}{st:SortSt}(hj:j<=(arrOf st).size)(hi:lo<=i):Kp lo st (setArr st (mirror (arrOf st) i j ((j-i)/2))):=⟨fun k hk=>by
 show (mirror (arrOf st) i j ((j-i)/2))[k]?=_
 rw [getElem?_mirror_all hj,if_neg (by omega)],rfl⟩
section
variable {prog:Program}{w:World}{A:Around}{E:Value->Shared->Prop}{s:Shared}{z:Array Keyed}{κ:KeyKind}{kd:SortKind}
theorem SB.key {st:SortSt}(h:SB kd z st)(hz:KeysOf κ z){i:Nat}(hi:i<z.size):∃ x p a,(arrOf st)[i]?=some (x,p)∧κ.keyOf x=some a∧KK κ (arrOf st) i=a:=by
 have hi':i<(arrOf st).size:=by rw [h.sz];exact hi
 have hm:(arrOf st)[i]∈z.toList:=(Array.perm_iff_toList_perm.mp h.prm).mem_iff.mp (by simp)
 obtain ⟨a,ha⟩:=hz _ hm
 have e:(arrOf st)[i]?=some (arrOf st)[i]:=getElem?_pos _ i hi'
 exact ⟨(arrOf st)[i].1,(arrOf st)[i].2,a,by rw [e],ha,by unfold KK;rw [e];simp [ha]⟩
theorem w_lt {st:SortSt}{i j:Nat}{Q:Option Bool->SortSt->Prop}(hO:LtR prog w A E s κ kd)(hB:SB kd z st)(hz:KeysOf κ z)(hi:i<z.size)(hj:j<z.size)
  (h:Q (some (κ.blt (KK κ (arrOf st) i) (KK κ (arrOf st) j))) st):wpS (model prog w) A E s (ltAt' i j) Q st:=by
 obtain ⟨x,p,a,e1,ha,ka⟩:=hB.key hz hi
 obtain ⟨y,q,b,e2,hb,kb⟩:=hB.key hz hj
 rw [ka,kb] at h
 rw [ltAt'_eq];refine wpS_bind (wpS_get ?_);dsimp only
 rw [elem'_eq,elem'_eq,e1,e2];refine wpS_bind (wpS_pure (wpS_bind (wpS_pure ?_)))
 exact hO st (x,p) (y,q) a b Q hB.knd ha hb h
def upL (lo a m:Nat):StateT SortSt Sem AscSt :=
 forIn [a:m] ((none,a):AscSt) fun _ c=>do
  let o <- ltAt' (lo+c.snd) (lo+c.snd-1)
  match o with
  | some t=>if t=true then pure (ForInStep.done (none,c.snd)) else pure (ForInStep.yield (none,c.snd+1))
  | _=>pure (ForInStep.done (some none,c.snd))
def Gi (lo n m:Nat):StateT SortSt Sem (Option Nat):=do
 reverseSlice' lo (lo+n)
 let c <- upL lo n m
 match c.fst with
 | some r=>pure r
 | none=>pure (some c.snd)
def dnL (lo n m:Nat):StateT SortSt Sem DescSt :=
 forIn [n:m] ((none,n,0):DescSt) fun _ c=>do
  let o <- ltAt' (lo+c.snd.fst) (lo+c.snd.fst-1)
  match o with
  | some t =>
   if t=true then
    if c.snd.snd>0 then do
     reverseSlice' (lo+c.snd.fst-(c.snd.snd+1)) (lo+c.snd.fst)
     pure (ForInStep.yield (none,c.snd.fst+1,0))
    else pure (ForInStep.yield (none,c.snd.fst+1,0))
   else do
    let o <- ltAt' (lo+c.snd.fst-1) (lo+c.snd.fst)
    match o with
    | some t=>if t=true then pure (ForInStep.done (none,c.snd.fst,c.snd.snd)) else pure (ForInStep.yield (none,c.snd.fst+1,c.snd.snd+1))
    | _=>pure (ForInStep.done (some none,c.snd.fst,c.snd.snd))
  | _=>pure (ForInStep.done (some none,c.snd.fst,c.snd.snd))
def dnP (lo n m:Nat):StateT SortSt Sem (Option Nat):=do
 liftM (rule "list.sort.descending-run")
 let c <- dnL lo (n+1) m
 match c.fst with
 | some r=>pure r
 | none =>
  if c.snd.snd>0 then do
   reverseSlice' (lo+c.snd.fst-(c.snd.snd+1)) (lo+c.snd.fst)
   Gi lo c.snd.fst m
  else Gi lo c.snd.fst m
theorem bnd {α β:Type}{x y:StateT SortSt Sem α}{f g:α->StateT SortSt Sem β}(h:x=y)(h':∀ a,f a=g a):(x >>= f)=(y >>= g):=by
 rw [h,show f=g from funext h']
theorem Mv (lo m:Nat):countRun' lo m=(do
  let c <- upL lo 1 m
  match c.fst with
  | some r=>pure r
  | none =>
   if (c.snd==m)=true then pure (some c.snd)
   else if c.snd>1 then do
    let o <- ltAt' lo (lo+c.snd-1)
    match o with
    | some t=>if t=true then pure (some c.snd) else do
      reverseSlice' lo (lo+c.snd)
      dnP lo c.snd m
    | _=>pure none
   else dnP lo c.snd m):=by
 rw [countRun'_eq]
 unfold dnP Gi dnL upL
 refine bnd rfl fun c=>?_
 obtain ⟨r,n⟩:=c
 cases r with
 | some r=>rfl
 | none =>
  dsimp only
  split
  ·rfl
  ·split
   ·refine bnd rfl fun x=>?_
    cases x with
    | none=>rfl
    | some t =>
     dsimp only
     split
     ·rfl
     ·refine bnd rfl fun _r=>?_
      refine bnd rfl fun _u=>?_
      refine bnd rfl fun s2=>?_
      obtain ⟨r2,n2,q2⟩:=s2
      cases r2 with
      | some r2=>rfl
      | none =>
       dsimp only
       split
       ·refine bnd rfl fun _v=>?_
        (refine bnd rfl fun _w=>?_;refine bnd rfl fun s3=>?_;obtain ⟨r3,n3⟩:=s3;cases r3 <;> rfl)
       ·(refine bnd rfl fun _w=>?_;refine bnd rfl fun s3=>?_;obtain ⟨r3,n3⟩:=s3;cases r3 <;> rfl)
   ·refine bnd rfl fun _u=>?_
    refine bnd rfl fun s2=>?_
    obtain ⟨r2,n2,q2⟩:=s2
    cases r2 with
    | some r2=>rfl
    | none =>
     dsimp only
     split
     ·refine bnd rfl fun _v=>?_
      (refine bnd rfl fun _w=>?_;refine bnd rfl fun s3=>?_;obtain ⟨r3,n3⟩:=s3;cases r3 <;> rfl)
     ·(refine bnd rfl fun _w=>?_;refine bnd rfl fun s3=>?_;obtain ⟨r3,n3⟩:=s3;cases r3 <;> rfl)
theorem Lm {xs:Array Keyed}{l:Nat}:Up κ xs l (l+1):=fun i j h1 h2 h3=>by
 obtain rfl:i=j:=by omega
 exact KeyOrd.kle_refl _
theorem Hf {xs:Array Keyed}{l r:Nat}(hr:l<r)(h:Up κ xs l r)(hl:κ.kle (KK κ xs (r-1)) (KK κ xs r)):Up κ xs l (r+1):=fun i j h1 h2 h3=>by
 by_cases hj:j<r
 ·exact h i j h1 h2 hj
 ·obtain rfl:j=r:=by omega
  by_cases hi:i=j
  ·subst hi;exact KeyOrd.kle_refl _
  ·exact KeyOrd.kle_trans (h i (j-1) h1 (by omega) (by omega)) hl
theorem nQ {xs:Array Keyed}{l r:Nat}(hr:l<r)(h:Dn κ xs l r)(hl:κ.kle (KK κ xs r) (KK κ xs (r-1))):Dn κ xs l (r+1):=fun i j h1 h2 h3=>by
 by_cases hj:j<r
 ·exact h i j h1 h2 hj
 ·obtain rfl:j=r:=by omega
  by_cases hi:i=j
  ·subst hi;exact KeyOrd.kle_refl _
  ·exact KeyOrd.kle_trans hl (h i (j-1) h1 (by omega) (by omega))
theorem Nx {st:SortSt}{lo a m:Nat}{Q:AscSt->SortSt->Prop}(hO:LtR prog w A E s κ kd)(hz:KeysOf κ z)(hm:lo+m<=z.size)(ha:1<=a)(ham:a<=m)(hB:SB kd z st)(hs:Up κ (arrOf st) lo (lo+a))
  (h:∀ n,a<=n->n<=m->Up κ (arrOf st) lo (lo+n)->(n=m∨κ.klt (KK κ (arrOf st) (lo+n)) (KK κ (arrOf st) (lo+n-1)))->Q (none,n) st):wpS (model prog w) A E s (upL lo a m) Q st:=by
 unfold upL
 refine wpS_forRange (I:=fun x c st'=>st'=st∧c=(none,x)∧Up κ (arrOf st) lo (lo+x)) ?sp ?fi ⟨rfl,rfl,hs⟩
 case fi =>
  rintro c st' ⟨rfl,rfl,hu⟩
  rw [show max a m=m by omega] at hu ⊢
  exact h m ham (Nat.le_refl _) hu (.inl rfl)
 case sp =>
  rintro x c st' hax hxm ⟨rfl,rfl,hu⟩
  dsimp only
  refine wpS_bind (w_lt hO hB hz (by omega) (by omega) ?_)
  cases hq:κ.blt (KK κ (arrOf st') (lo+x)) (KK κ (arrOf st') (lo+x-1)) with
  | true =>
   simp only [if_true]
   exact wpS_pure (h x hax (by omega) hu (.inr hq))
  | false =>
   simp only [Bool.false_eq_true,if_false]
   exact wpS_pure ⟨rfl,rfl,Hf (r:=lo+x) (by omega) hu hq⟩
theorem Jl {st:SortSt}{lo n m:Nat}{Q:Option Nat->SortSt->Prop}(hO:LtR prog w A E s κ kd)(hz:KeysOf κ z)(hm:lo+m<=z.size)(h1:1<=n)(hn:n<=m)(hB:SB kd z st)(hs:Dn κ (arrOf st) lo (lo+n))
  (h:∀ k st',SB kd z st'->Kp lo st st'->1<=k->k<=m->Up κ (arrOf st') lo (lo+k)->Q (some k) st'):wpS (model prog w) A E s (Gi lo n m) Q st:=by
 unfold Gi
 have hsz:lo+n<=(arrOf st).size:=by rw [hB.sz];omega
 refine wpS_bind (wpS_reverse ?_)
 have hB':SB kd z (setArr st (mirror (arrOf st) lo (lo+n) ((lo+n-lo)/2))):=hB.put (mirror_perm _ _ _ _)
 refine wpS_bind (Nx hO hz hm h1 hn hB' ?_ fun k hk1 hk2 hu _=>wpS_pure (h k _ hB' (jN hsz (Nat.le_refl _)) (by omega) hk2 hu))
 intro i j hi hij hj
 show κ.kle (KK κ (mirror (arrOf st) lo (lo+n) ((lo+n-lo)/2)) i) (KK κ (mirror (arrOf st) lo (lo+n) ((lo+n-lo)/2)) j)
 rw [KK_mirror hsz,KK_mirror hsz,if_pos ⟨by omega,by omega⟩,if_pos ⟨by omega,by omega⟩]
 exact hs _ _ (by omega) (by omega) (by omega)
theorem Po {st:SortSt}{lo n m:Nat}{Q:DescSt->SortSt->Prop}(hO:LtR prog w A E s κ kd)(hz:KeysOf κ z)(hm:lo+m<=z.size)(h1:1<=n)(hn:n<=m)(hB:SB kd z st)(hs:Dn κ (arrOf st) lo (lo+n))
  (h:∀ k e st',SB kd z st'->Kp lo st st'->n<=k->k<=m->Dn κ (arrOf st') lo (lo+k)->e+1<=k->(∀ i,lo+k-(e+1)<=i->i<lo+k->KK κ (arrOf st') i=KK κ (arrOf st') (lo+k-1))->Q (none,k,e) st') :
  wpS (model prog w) A E s (dnL lo n m) Q st:=by
 unfold dnL
 refine wpS_forRange (I:=fun x c st'=>∃ e,c=(none,x,e)∧SB kd z st'∧Kp lo st st'∧Dn κ (arrOf st') lo (lo+x)∧e+1<=x∧(∀ i,lo+x-(e+1)<=i->i<lo+x->KK κ (arrOf st') i=KK κ (arrOf st') (lo+x-1))) ?sp ?fi
  ⟨0,rfl,hB,Kp.rfl',hs,by omega,fun i g1 g2=>by rw [show i=lo+n-1 by omega]⟩
 case fi =>
  rintro c st' ⟨e,rfl,hB',hk',hd,he,hq⟩
  rw [show max n m=m by omega] at hd he hq ⊢
  exact h m e st' hB' hk' hn (Nat.le_refl _) hd he hq
 case sp =>
  rintro x c st' hax hxm ⟨e,rfl,hB',hk',hd,he,hq⟩
  dsimp only
  have hsz:lo+x<=(arrOf st').size:=by rw [hB'.sz];omega
  refine wpS_bind (w_lt hO hB' hz (by omega) (by omega) ?_)
  cases hl:κ.blt (KK κ (arrOf st') (lo+x)) (KK κ (arrOf st') (lo+x-1)) with
  | true =>
   simp only [if_true]
   have hstep:∀ xs:Array Keyed,(∀ k,KK κ xs k=KK κ (arrOf st') k)->Dn κ xs lo (lo+(x+1)):=fun xs hk=>by
    have h2:=nQ (r:=lo+x) (by omega) hd (KeyOrd.kle_of_klt hl)
    intro i j g1 g2 g3
    rw [hk,hk]
    exact h2 i j g1 g2 (by omega)
   by_cases he0:e>0
   ·rw [if_pos he0]
    exact wpS_bind (wpS_reverse (wpS_pure ⟨0,rfl,hB'.put (mirror_perm _ _ _ _),hk'.tr (jN hsz (by omega)),hstep _ (KK_mirror_equal hsz hq),by omega,fun i g1 g2=>by rw [show i=lo+(x+1)-1 by omega]⟩))
   ·rw [if_neg he0]
    exact wpS_pure ⟨0,rfl,hB',hk',hstep _ (fun _=>rfl),by omega,fun i g1 g2=>by rw [show i=lo+(x+1)-1 by omega]⟩
  | false =>
   simp only [Bool.false_eq_true,if_false]
   refine wpS_bind (w_lt hO hB' hz (by omega) (by omega) ?_)
   cases hg:κ.blt (KK κ (arrOf st') (lo+x-1)) (KK κ (arrOf st') (lo+x)) with
   | true =>
    simp only [if_true]
    exact wpS_pure (h x e st' hB' hk' hax (by omega) hd he hq)
   | false =>
    simp only [Bool.false_eq_true,if_false]
    have hx:KK κ (arrOf st') (lo+x)=KK κ (arrOf st') (lo+x-1):=KeyOrd.kle_antisymm hg hl
    refine wpS_pure ⟨e+1,rfl,hB',hk',nQ (r:=lo+x) (by omega) hd hg,by omega,fun i g1 g2=>?_⟩
    rw [show lo+(x+1)-1=lo+x by omega]
    by_cases hi:i=lo+x
    ·rw [hi]
    ·rw [hx];exact hq i (by omega) (by omega)
theorem Kf {st:SortSt}{lo n m:Nat}{Q:Option Nat->SortSt->Prop}(hO:LtR prog w A E s κ kd)(hz:KeysOf κ z)(hm:lo+m<=z.size)(hn:n+1<=m)(hB:SB kd z st)(hs:Dn κ (arrOf st) lo (lo+(n+1)))
  (h:∀ k st',SB kd z st'->Kp lo st st'->1<=k->k<=m->Up κ (arrOf st') lo (lo+k)->Q (some k) st'):wpS (model prog w) A E s (dnP lo n m) Q st:=by
 unfold dnP
 refine wpS_bind (wpS_lift (wpAny_rule ⟨rfl,?_⟩))
 refine wpS_bind (Po hO hz hm (by omega) hn hB hs fun k e st' hB' hk' hk1 hk2 hd he hq=>?_)
 dsimp only
 have hsz:lo+k<=(arrOf st').size:=by rw [hB'.sz];omega
 by_cases he0:e>0
 ·rw [if_pos he0]
  refine wpS_bind (wpS_reverse (Jl hO hz hm (by omega) hk2 (hB'.put (mirror_perm _ _ _ _)) ?_ fun j st2 b1 b2 b3 b4 b5=>h j st2 b1 ((hk'.tr (jN hsz (by omega))).tr b2) b3 b4 b5))
  intro i j hi hij hj
  show κ.kle (KK κ (mirror (arrOf st') _ _ _) j) (KK κ (mirror (arrOf st') _ _ _) i)
  rw [KK_mirror_equal hsz hq,KK_mirror_equal hsz hq]
  exact hd i j hi hij hj
 ·rw [if_neg he0]
  exact Jl hO hz hm (by omega) hk2 hB' hd fun j st2 b1 b2 b3 b4 b5=>h j st2 b1 (hk'.tr b2) b3 b4 b5
theorem Oh {st:SortSt}{lo m:Nat}{Q:Option Nat->SortSt->Prop}(hO:LtR prog w A E s κ kd)(hz:KeysOf κ z)(hm:lo+m<=z.size)(h1:1<=m)(hB:SB kd z st)
  (h:∀ k st',SB kd z st'->Kp lo st st'->1<=k->k<=m->Up κ (arrOf st') lo (lo+k)->Q (some k) st'):wpS (model prog w) A E s (countRun' lo m) Q st:=by
 rw [Mv]
 refine wpS_bind (Nx hO hz hm (Nat.le_refl 1) h1 hB Lm fun n hn1 hn2 hu hor=>?_)
 dsimp only
 by_cases hnm:n=m
 ·rw [if_pos (by simpa using hnm)]
  exact wpS_pure (h n st hB Kp.rfl' hn1 hn2 hu)
 ·rw [if_neg (by simpa using hnm)]
  have hlt:=hor.resolve_left hnm
  by_cases hgt:n>1
  ·rw [if_pos hgt]
   refine wpS_bind (w_lt hO hB hz (by omega) (by omega) ?_)
   cases hr:κ.blt (KK κ (arrOf st) lo) (KK κ (arrOf st) (lo+n-1)) with
   | true =>
    simp only [if_true]
    exact wpS_pure (h n st hB Kp.rfl' hn1 hn2 hu)
   | false =>
    simp only [Bool.false_eq_true,if_false]
    have hsz:lo+n<=(arrOf st).size:=by rw [hB.sz];omega
    have hall:∀ k,lo<=k->k<lo+n->KK κ (arrOf st) k=KK κ (arrOf st) (lo+n-1):=fun k k1 k2 =>
     KeyOrd.kle_antisymm (hu k (lo+n-1) k1 (by omega) (by omega)) (KeyOrd.kle_trans hr (hu lo k (Nat.le_refl _) k1 k2))
    refine wpS_bind (wpS_reverse (Kf hO hz hm (by omega) (hB.put (mirror_perm _ _ _ _)) ?_ fun j st2 b1 b2 b3 b4 b5=>h j st2 b1 ((jN hsz (Nat.le_refl _)).tr b2) b3 b4 b5))
    have hd:Dn κ (arrOf st) lo (lo+n):=fun i j g1 g2 g3=>by rw [hall i (by omega) (by omega),hall j (by omega) (by omega)];exact KeyOrd.kle_refl _
    have hd2:=nQ (by omega) hd (KeyOrd.kle_of_klt hlt)
    intro i j g1 g2 g3
    show κ.kle (KK κ (mirror (arrOf st) _ _ _) j) (KK κ (mirror (arrOf st) _ _ _) i)
    rw [KK_mirror_equal hsz hall,KK_mirror_equal hsz hall]
    exact hd2 i j g1 g2 (by omega)
  ·rw [if_neg hgt]
   obtain rfl:n=1:=by omega
   refine Kf hO hz hm (by omega) hB ?_ h
   refine nQ (by omega) (fun i j g1 g2 g3=>?_) (KeyOrd.kle_of_klt hlt)
   obtain rfl:i=j:=by omega
   exact KeyOrd.kle_refl _
theorem Pe {st:SortSt}{lo n ok:Nat}{Q:Bool->SortSt->Prop}(hO:LtR prog w A E s κ kd)(hz:KeysOf κ z)(hn:lo+n<=z.size)(h1:1<=ok)(hok:ok<=n)(hB:SB kd z st)(hs:Up κ (arrOf st) lo (lo+ok))
  (h:∀ st',SB kd z st'->Kp lo st st'->Up κ (arrOf st') lo (lo+n)->Q true st'):wpS (model prog w) A E s (binarySort' lo n ok) Q st:=by
 rw [binarySort'_eq]
 refine wpS_bind (wpS_mono (wpS_forRange (I:=fun k c st'=>c=(none,())∧SB kd z st'∧Kp lo st st'∧Up κ (arrOf st') lo (lo+k)) (Q:=fun c st'=>c=(none,())∧SB kd z st'∧Kp lo st st'∧Up κ (arrOf st') lo (lo+n)) ?sp ?fi ?ini) ?po)
 case po =>
  rintro c st' ⟨rfl,hB',hk',hu⟩
  exact wpS_pure (h st' hB' hk' hu)
 case ini =>
  rw [Nat.max_eq_left h1]
  exact ⟨rfl,hB,Kp.rfl',hs⟩
 case fi =>
  rintro c st' ⟨hc,hB',hk',hu⟩
  rw [Nat.max_eq_left h1,Nat.max_eq_right hok] at hu
  exact ⟨hc,hB',hk',hu⟩
 case sp =>
  rintro k c st' hak hkn ⟨rfl,hB',hk',hu⟩
  have hk:lo+k<z.size:=by omega
  refine wpS_bind (wpS_mono (wpS_forRange (I:=fun x c st2=>st2=st'∧∃ l r,c=(none,l,r)∧l<=r∧r<=k∧r-l<=k-x∧(∀ i,i<l->κ.kle (KK κ (arrOf st') (lo+i)) (KK κ (arrOf st') (lo+k)))∧(∀ i,r<=i->i<k->κ.klt (KK κ (arrOf st') (lo+k)) (KK κ (arrOf st') (lo+i))))
   (Q:=fun c st2=>st2=st'∧∃ l r,c=(none,l,r)∧l<=k∧(∀ i,i<l->κ.kle (KK κ (arrOf st') (lo+i)) (KK κ (arrOf st') (lo+k)))∧(∀ i,l<=i->i<k->κ.klt (KK κ (arrOf st') (lo+k)) (KK κ (arrOf st') (lo+i)))) ?isp ?ifi ?iini) ?ipo)
  case iini=>exact ⟨rfl,0,k,rfl,Nat.zero_le _,Nat.le_refl _,by omega,fun i g=>absurd g (Nat.not_lt_zero i),fun i g1 g2=>absurd g2 (Nat.not_lt.mpr g1)⟩
  case ifi =>
   rintro c st2 ⟨rfl,l,r,rfl,hlr,hrk,hx,hlo,hhi⟩
   obtain rfl:l=r:=by omega
   exact ⟨rfl,l,l,rfl,hrk,hlo,hhi⟩
  case isp =>
   rintro x c st2 _ hxk ⟨rfl,l,r,rfl,hlr,hrk,hx,hlo,hhi⟩
   dsimp only
   by_cases hge:l≥r
   ·rw [if_pos hge]
    obtain rfl:l=r:=by omega
    exact wpS_pure ⟨rfl,l,l,rfl,hrk,hlo,hhi⟩
   ·rw [if_neg hge]
    refine wpS_bind (w_lt hO hB' hz hk (by omega) ?_)
    cases hl:κ.blt (KK κ (arrOf st2) (lo+k)) (KK κ (arrOf st2) (lo+(l+r)/2)) with
    | true =>
     simp only [if_true]
     exact wpS_pure ⟨rfl,l,(l+r)/2,rfl,by omega,by omega,by omega,hlo,fun i g1 g2=>KeyOrd.klt_of_klt_of_kle hl (hu _ _ (by omega) (by omega) (by omega))⟩
    | false =>
     simp only [Bool.false_eq_true,if_false]
     exact wpS_pure ⟨rfl,(l+r)/2+1,r,rfl,by omega,by omega,by omega,fun i g=>KeyOrd.kle_trans (hu (lo+i) (lo+(l+r)/2) (by omega) (by omega) (by omega)) hl,hhi⟩
  case ipo =>
   rintro c st2 ⟨rfl,l,r,rfl,hlk,hlo,hhi⟩
   show wpS _ _ _ _ (do moveDown' (lo+k) (lo+l);pure (ForInStep.yield (none,()))) _ _
   rw [moveDown'_eq]
   have hks:lo+k<(arrOf st2).size:=by rw [hB'.sz];exact hk
   refine wpS_bind (wpS_modify (wpS_pure ⟨rfl,hB'.put (bubble_perm _ _ _),hk'.tr ⟨fun i hi=>?_,rfl⟩,?_⟩))
   ·show (bubble (arrOf st2) (lo+k) (lo+k-(lo+l)))[i]?=_
    rw [getElem?_bubble hks _ (by omega),if_neg (by omega),if_neg (by omega)]
   intro i j g1 g2 g3
   show κ.kle (KK κ (bubble (arrOf st2) (lo+k) (lo+k-(lo+l))) i) (KK κ (bubble (arrOf st2) (lo+k) (lo+k-(lo+l))) j)
   rw [KK_bubble hks (by omega),KK_bubble hks (by omega),Nat.sub_sub_self (Nat.add_le_add_left hlk lo)]
   have hlo':∀ i,lo<=i->i<lo+l->κ.kle (KK κ (arrOf st2) i) (KK κ (arrOf st2) (lo+k)):=fun i g1 g2=>by
    have:=hlo (i-lo) (by omega)
    rwa [Nat.add_sub_cancel' g1] at this
   have hhi':∀ i,lo+l<=i->i<lo+k->κ.klt (KK κ (arrOf st2) (lo+k)) (KK κ (arrOf st2) i):=fun i g1 g2=>by
    have:=hhi (i-lo) (by omega) (by omega)
    rwa [Nat.add_sub_cancel' (Nat.le_trans (Nat.le_add_right lo l) g1)] at this
   repeat' split
   all_goals first
    | (exfalso;omega)
    | exact KeyOrd.kle_refl _
    | exact hlo' _ (by omega) (by omega)
    | exact KeyOrd.kle_of_klt (hhi' _ (by omega) (by omega))
    | exact hu _ _ (by omega) (by omega) (by omega)
end
end SR
set_option autoImplicit false
namespace SR
open PySem PyProof.Rows
def nK:Bool->Keyed->Array Keyed->Nat->Nat->Nat->StateT SortSt Sem (Option Nat):=sortPriv% PySem.Builtin.gallop
def bq (left:Bool)(key:Keyed)(arr:Array Keyed)(base:Nat)(i:Nat):StateT SortSt Sem (Option Bool):=do
 let x <- elem' arr (base+i)
 if left then lt' x key else return (<- lt' key x).map (!·)
theorem Hd (left:Bool)(key:Keyed)(arr:Array Keyed)(base n hint:Nat):nK left key arr base n hint=(do
 let mut la:=0
 let mut po:=1
 let mut l:=0
 let mut h:=0
 let some r0 <- bq left key arr base hint | return none
 if r0 then
  let mx:=n-hint
  for _ in [0:n] do
   if po≥mx then break
   let some mo <- bq left key arr base (hint+po) | return none
   if !mo then break
   la:=po
   po:=2*po+1
  l:=hint+la+1
  h:=hint+min po mx
 else
  let mx:=hint+1
  for _ in [0:n] do
   if po≥mx then break
   let some mo <- bq left key arr base (hint-po) | return none
   if mo then break
   la:=po
   po:=2*po+1
  l:=hint+1-min po mx
  h:=hint-la
 for _ in [0:n] do
  if l≥h then break
  let m:=l+(h-l)/2
  let some mo <- bq left key arr base m | return none
  if mo then l:=m+1 else h:=m
 return some h):=rfl
section
variable {prog:Program}{w:World}{A:Around}{E:Value->Shared->Prop}{s:Shared}{z:Array Keyed}{κ:KeyKind}{kd:SortKind}
theorem Ay {α:Type}{m m':StateT SortSt Sem α}{Q:α->SortSt->Prop}{st:SortSt}(e:m=m')(h:wpS (model prog w) A E s m' Q st):wpS (model prog w) A E s m Q st:=e▸h
theorem Fm {st:SortSt}{x y:Keyed}{a b:κ.α}{Q:Option Bool->SortSt->Prop}(hO:LtR prog w A E s κ kd)(hk:kindOf st=kd)(ha:κ.keyOf x.1=some a)(hb:κ.keyOf y.1=some b)(h:Q (some (κ.blt a b)) st) :
 wpS (model prog w) A E s (lt' x y) Q st:=hO st x y a b Q hk ha hb h
theorem Nq {st:SortSt}{left:Bool}{key x:Keyed}{arr:Array Keyed}{base i:Nat}{a b:κ.α}{Q:Option Bool->SortSt->Prop}(hO:LtR prog w A E s κ kd)(hk:kindOf st=kd)(hx:arr[base+i]?=some x)(ha:κ.keyOf x.1=some a)(hb:κ.keyOf key.1=some b)
  (h:Q (some (if left=true then κ.blt a b else !κ.blt b a)) st):wpS (model prog w) A E s (bq left key arr base i) Q st:=by
 unfold bq
 rw [elem'_eq,hx]
 refine wpS_bind (wpS_pure ?_)
 cases left with
 | true=>exact Fm hO hk ha hb (by simpa using h)
 | false =>
  simp only [Bool.false_eq_true,if_false] at h ⊢
  exact wpS_bind (Fm hO hk hb ha (wpS_pure h))
def Jc (left:Bool)(key:Keyed)(arr:Array Keyed)(base n l h:Nat):StateT SortSt Sem (Option Nat):=do
 let c <- forIn [0:n] ((none,l,h):Option (Option Nat)×Nat×Nat) fun _ c =>
  if c.snd.fst≥c.snd.snd then pure (ForInStep.done (none,c.snd.fst,c.snd.snd))
  else do
   let o <- bq left key arr base (c.snd.fst+(c.snd.snd-c.snd.fst)/2)
   match o with
   | some mo=>if mo=true then pure (ForInStep.yield (none,c.snd.fst+(c.snd.snd-c.snd.fst)/2+1,c.snd.snd)) else pure (ForInStep.yield (none,c.snd.fst,c.snd.fst+(c.snd.snd-c.snd.fst)/2))
   | _=>pure (ForInStep.done (some none,c.snd.fst,c.snd.snd))
 match c.fst with
 | some r=>pure r
 | none=>pure (some c.snd.snd)
theorem Er {st:SortSt}{left:Bool}{key:Keyed}{arr:Array Keyed}{base n l h:Nat}{b:Nat->Bool}{Q:Option Nat->SortSt->Prop}
  (hb:∀ i (R:Option Bool->SortSt->Prop),i<n->R (some (b i)) st->wpS (model prog w) A E s (bq left key arr base i) R st)
  (hm:∀ i j,i<=j->j<n->b j=true->b i=true) (hlh:l<=h) (hn:h<=n) (h1:∀ i,i<l->b i=true) (h2:∀ i,h<=i->i<n->b i=false)
  (hq:∀ k,k<=n->(∀ i,i<k->b i=true)->(∀ i,k<=i->i<n->b i=false)->Q (some k) st):wpS (model prog w) A E s (Jc left key arr base n l h) Q st:=by
 unfold Jc
 refine wpS_bind (wpS_mono (wpS_forRange (I:=fun x c st2=>st2=st∧∃ l h,c=(none,l,h)∧l<=h∧h<=n∧h-l<=n-x∧(∀ i,i<l->b i=true)∧∀ i,h<=i->i<n->b i=false)
  (Q:=fun c st2=>st2=st∧∃ k,c.1=none∧c.2.2=k∧k<=n∧(∀ i,i<k->b i=true)∧∀ i,k<=i->i<n->b i=false) ?sp ?fi ⟨rfl,l,h,rfl,hlh,hn,by omega,h1,h2⟩) ?po)
 case po =>
  rintro ⟨o,x,y⟩ st2 ⟨rfl,k,e1,rfl,g1,g2,g3⟩
  dsimp only at e1 g1 g2 g3 ⊢
  subst e1
  exact wpS_pure (hq y g1 g2 g3)
 case fi =>
  rintro c st2 ⟨rfl,l,h,rfl,g1,g2,g3,g4,g5⟩
  obtain rfl:l=h:=by omega
  exact ⟨rfl,l,rfl,rfl,g2,g4,g5⟩
 case sp =>
  rintro x c st2 _ hx ⟨rfl,l,h,rfl,g1,g2,g3,g4,g5⟩
  dsimp only
  by_cases hge:l≥h
  ·rw [if_pos hge]
   obtain rfl:l=h:=by omega
   exact wpS_pure ⟨rfl,l,rfl,rfl,g2,g4,g5⟩
  ·rw [if_neg hge]
   refine wpS_bind (hb (l+(h-l)/2) _ (by omega) ?_)
   dsimp only
   cases hq2:b (l+(h-l)/2) with
   | true =>
    simp only [if_true]
    exact wpS_pure ⟨rfl,l+(h-l)/2+1,h,rfl,by omega,by omega,by omega,fun i hi=>hm i (l+(h-l)/2) (by omega) (by omega) hq2,g5⟩
   | false =>
    simp only [Bool.false_eq_true,if_false]
    refine wpS_pure ⟨rfl,l,l+(h-l)/2,rfl,by omega,by omega,by omega,g4,fun i hi hi2=>?_⟩
    cases hbi:b i with
    | false=>rfl
    | true=>rw [hm _ i hi hi2 hbi] at hq2;cases hq2
theorem Jr {st:SortSt}{left:Bool}{key:Keyed}{arr:Array Keyed}{base n hint:Nat}{b:Nat->Bool}{Q:Option Nat->SortSt->Prop}(hh:hint<n)
  (hb:∀ i (R:Option Bool->SortSt->Prop),i<n->R (some (b i)) st->wpS (model prog w) A E s (bq left key arr base i) R st)
  (hm:∀ i j,i<=j->j<n->b j=true->b i=true)
  (h:∀ k,k<=n->(∀ i,i<k->b i=true)->(∀ i,k<=i->i<n->b i=false)->Q (some k) st):wpS (model prog w) A E s (nK left key arr base n hint) Q st:=by
 rw [Hd]
 dsimp only
 refine wpS_bind (hb hint _ hh ?_)
 dsimp only
 cases h0:b hint with
 | true =>
  rw [if_pos rfl]
  refine wpS_bind (wpS_mono (wpS_forRange (I:=fun x c st2=>st2=st∧∃ la po,c=(none,la,po)∧la<po∧x+1<=po∧hint+la<n∧b (hint+la)=true)
   (Q:=fun c st2=>st2=st∧∃ la po,c=(none,la,po)∧la<po∧hint+la<n∧b (hint+la)=true∧(n-hint<=po∨(hint+po<n∧b (hint+po)=false))) ?sp ?fi ⟨rfl,0,1,rfl,by omega,by omega,hh,h0⟩) ?po)
  case fi =>
   rintro c st2 ⟨rfl,la,po,rfl,g1,g2,g3,g4⟩
   exact ⟨rfl,la,po,rfl,g1,g3,g4,.inl (by omega)⟩
  case sp =>
   rintro x c st2 _ hx ⟨rfl,la,po,rfl,g1,g2,g3,g4⟩
   dsimp only
   by_cases hge:po≥n-hint
   ·rw [if_pos hge]
    exact wpS_pure ⟨rfl,la,po,rfl,g1,g3,g4,.inl hge⟩
   ·rw [if_neg hge]
    refine wpS_bind (hb (hint+po) _ (by omega) ?_)
    dsimp only
    cases hq2:b (hint+po) with
    | true =>
     simp only [Bool.not_true,Bool.false_eq_true,if_false]
     exact wpS_pure ⟨rfl,po,2*po+1,rfl,by omega,by omega,by omega,hq2⟩
    | false =>
     simp only [Bool.not_false,if_true]
     exact wpS_pure ⟨rfl,la,po,rfl,g1,g3,g4,.inr ⟨by omega,hq2⟩⟩
  case po =>
   rintro c st2 ⟨rfl,la,po,rfl,g1,g3,g4,g5⟩
   dsimp only
   refine Ay (m':=Jc left key arr base n (hint+la+1) (hint+min po (n-hint))) (bnd rfl fun c=>by obtain ⟨r,x,y⟩:=c;cases r <;> rfl) ?_
   refine Er hb hm (by omega) (by omega) (fun i hi=>hm i (hint+la) (by omega) g3 g4) (fun i hi hi2=>?_) h
   rcases g5 with g5 | ⟨g5,g6⟩
   ·omega
   ·cases hbi:b i with
    | false=>rfl
    | true=>rw [hm (hint+po) i (by omega) hi2 hbi] at g6;cases g6
 | false =>
  rw [if_neg Bool.false_ne_true]
  refine wpS_bind (wpS_mono (wpS_forRange (I:=fun x c st2=>st2=st∧∃ la po,c=(none,la,po)∧la<po∧x+1<=po∧la<=hint∧b (hint-la)=false)
   (Q:=fun c st2=>st2=st∧∃ la po,c=(none,la,po)∧la<po∧la<=hint∧b (hint-la)=false∧(hint+1<=po∨(po<=hint∧b (hint-po)=true))) ?sp ?fi ⟨rfl,0,1,rfl,by omega,by omega,by omega,h0⟩) ?po)
  case fi =>
   rintro c st2 ⟨rfl,la,po,rfl,g1,g2,g3,g4⟩
   exact ⟨rfl,la,po,rfl,g1,g3,g4,.inl (by omega)⟩
  case sp =>
   rintro x c st2 _ hx ⟨rfl,la,po,rfl,g1,g2,g3,g4⟩
   dsimp only
   by_cases hge:po≥hint+1
   ·rw [if_pos hge]
    exact wpS_pure ⟨rfl,la,po,rfl,g1,g3,g4,.inl hge⟩
   ·rw [if_neg hge]
    refine wpS_bind (hb (hint-po) _ (by omega) ?_)
    dsimp only
    cases hq2:b (hint-po) with
    | true =>
     simp only [if_true]
     exact wpS_pure ⟨rfl,la,po,rfl,g1,g3,g4,.inr ⟨by omega,hq2⟩⟩
    | false =>
     simp only [Bool.false_eq_true,if_false]
     exact wpS_pure ⟨rfl,po,2*po+1,rfl,by omega,by omega,by omega,hq2⟩
  case po =>
   rintro c st2 ⟨rfl,la,po,rfl,g1,g3,g4,g5⟩
   dsimp only
   refine Ay (m':=Jc left key arr base n (hint+1-min po (hint+1)) (hint-la)) (bnd rfl fun c=>by obtain ⟨r,x,y⟩:=c;cases r <;> rfl) ?_
   refine Er hb hm (by omega) (by omega) (fun i hi=>?_) (fun i hi hi2=>?_) h
   ·rcases g5 with g5 | ⟨g5,g6⟩
    ·omega
    ·exact hm i (hint-po) (by omega) (by omega) g6
   ·cases hbi:b i with
    | false=>rfl
    | true=>rw [hm (hint-la) i (by omega) hi2 hbi] at g4;cases g4
end
end SR
set_option autoImplicit false
namespace SR
open PySem PyProof.Rows
set_option genInjectivity false in
structure MI (R:Keyed->Keyed->Prop)(Z o ra rb:List Keyed):Prop where
 so:o.Pairwise R
 be:∀ x∈o,∀ y,y∈ra∨y∈rb->R x y
 pm:(o++(ra++rb)).Perm Z
 sa:ra.Pairwise R
 sb:rb.Pairwise R
theorem MI.sw {R:Keyed->Keyed->Prop}{Z o ra rb:List Keyed}(h:MI R Z o ra rb):MI R Z o rb ra :=
 ⟨h.so,fun x hx y hy=>h.be x hx y hy.symm,((List.perm_append_comm (l₁:=rb) (l₂:=ra)).append_left o).trans h.pm,h.sb,h.sa⟩
theorem MI.blk {R:Keyed->Keyed->Prop}{Z o u ra rb:List Keyed}(h:MI R Z o (u++ra) rb)(hu:∀ x∈u,∀ y∈rb,R x y):MI R Z (o++u) ra rb:=by
 obtain ⟨s1,s2,s3⟩:=List.pairwise_append.mp h.sa
 refine ⟨List.pairwise_append.mpr ⟨h.so,s1,fun x hx y hy=>h.be x hx y (.inl (List.mem_append_left _ hy))⟩,fun x hx y hy=>?_,?_,s2,h.sb⟩
 ·rcases List.mem_append.mp hx with g | g
  ·exact h.be x g y (hy.imp_left (List.mem_append_right _))
  ·rcases hy with hy | hy
   ·exact s3 x g y hy
   ·exact hu x g y hy
 ·have:=h.pm
  rw [List.append_assoc] at this ⊢
  exact this
def Fi (R:Keyed->Keyed->Prop)(Z:List Keyed)(r:Array Keyed):Prop:=r.toList.Perm Z∧r.toList.Pairwise R
theorem MI.fin {R:Keyed->Keyed->Prop}{Z o ra:List Keyed}(h:MI R Z o ra []):(o++ra).Perm Z∧(o++ra).Pairwise R:=by
 refine ⟨?_,List.pairwise_append.mpr ⟨h.so,h.sa,fun x hx y hy=>h.be x hx y (.inl hy)⟩⟩
 have:=h.pm
 rw [List.append_nil] at this
 exact this
theorem gW (a:Array Keyed)(i:Nat):(a.extract i a.size).toList=a.toList.drop i:=by
 rw [Array.toList_extract,List.extract_eq_take_drop]
 exact List.take_of_length_le (by rw [List.length_drop,Array.length_toList];exact Nat.le_refl _)
theorem zU (a:Array Keyed)(i k:Nat):(a.extract i (i+k)).toList=(a.toList.drop i).take k:=by
 rw [Array.toList_extract,List.extract_eq_take_drop,Nat.add_sub_cancel_left]
theorem gZ {a:Array Keyed}{i:Nat}(h:i<a.size):a.toList.drop i=a[i]::a.toList.drop (i+1):=by
 rw [List.drop_eq_getElem_cons (by rw [Array.length_toList];exact h),Array.getElem_toList]
theorem uI (a:Array Keyed)(i k:Nat):a.toList.drop i=(a.toList.drop i).take k++a.toList.drop (i+k):=by
 rw [<- List.drop_drop,List.take_append_drop]
theorem MI.pushA {R:Keyed->Keyed->Prop}{Z:List Keyed}{o a:Array Keyed}{i:Nat}{rb:List Keyed}(h:MI R Z o.toList (a.toList.drop i) rb)(hi:i<a.size)(hu:∀ y∈rb,R a[i] y):MI R Z (o.push a[i]).toList (a.toList.drop (i+1)) rb:=by
 rw [gZ hi,<- List.singleton_append] at h
 have:=h.blk fun x hx y hy=>by rw [List.mem_singleton.mp hx];exact hu y hy
 rw [Array.toList_push]
 exact this
theorem MI.blkA {R:Keyed->Keyed->Prop}{Z:List Keyed}{o a:Array Keyed}{i k:Nat}{rb:List Keyed}(h:MI R Z o.toList (a.toList.drop i) rb)(hu:∀ x∈(a.toList.drop i).take k,∀ y∈rb,R x y):MI R Z (o++a.extract i (i+k)).toList (a.toList.drop (i+k)) rb:=by
 rw [uI a i k] at h
 rw [Array.toList_append,zU]
 exact h.blk hu
theorem MI.doneA {R:Keyed->Keyed->Prop}{Z:List Keyed}{o a b:Array Keyed}{i j:Nat}(h:MI R Z o.toList (a.toList.drop i) (b.toList.drop j))(hj:b.size<=j):Fi R Z (o++a.extract i a.size++b.extract j b.size):=by
 unfold Fi
 rw [List.drop_eq_nil_of_le (as:=b.toList) (by rw [Array.length_toList];exact hj)] at h
 rw [Array.toList_append,Array.toList_append,gW,gW,List.drop_eq_nil_of_le (as:=b.toList) (by rw [Array.length_toList];exact hj),List.append_nil]
 exact h.fin
theorem MI.doneB {R:Keyed->Keyed->Prop}{Z:List Keyed}{o a b:Array Keyed}{i j:Nat}(h:MI R Z o.toList (a.toList.drop i) (b.toList.drop j))(hi:a.size<=i):Fi R Z (o++a.extract i a.size++b.extract j b.size):=by
 unfold Fi
 rw [List.drop_eq_nil_of_le (as:=a.toList) (by rw [Array.length_toList];exact hi)] at h
 rw [Array.toList_append,Array.toList_append,gW,gW,List.drop_eq_nil_of_le (as:=a.toList) (by rw [Array.length_toList];exact hi),List.append_nil]
 exact h.sw.fin
theorem MI.lastA {R:Keyed->Keyed->Prop}{Z:List Keyed}{o a b:Array Keyed}{i j:Nat}(h:MI R Z o.toList (a.toList.drop i) (b.toList.drop j))(hi:i+1=a.size)(hl:∀ y∈b.toList,∀ x,a.toList.getLast?=some x->R y x):Fi R Z (o++b.extract j b.size++a.extract i a.size):=by
 unfold Fi
 have e:a.toList.drop i=[a[i]'(by omega)]:=by
  rw [gZ (by omega),List.drop_eq_nil_of_le (by rw [Array.length_toList];omega)]
 have el:a.toList.getLast?=some (a[i]'(by omega)):=by
  rw [List.getLast?_eq_getElem?,Array.length_toList,show a.size-1=i by omega,Array.getElem?_toList,getElem?_pos a i (by omega)]
 rw [Array.toList_append,Array.toList_append,gW,gW]
 have h2:MI R Z (o.toList++b.toList.drop j) (a.toList.drop i) []:=by
  have h3:=h.sw
  rw [show b.toList.drop j=b.toList.drop j++[] from (List.append_nil _).symm] at h3
  refine (h3.blk fun x hx y hy=>?_).sw
  rw [e,List.mem_singleton] at hy
  rw [hy]
  exact hl x (List.mem_of_mem_drop hx) _ el
 exact h2.fin
def Bl (g:Nat):StateT SortSt Sem Unit:=modify fun s=>SortSt.mk' (kindOf s) (arrOf s) (pendingOf s) g (failedOf s)
def Ko:Array Keyed->Array Keyed->StateT SortSt Sem (Array Keyed):=sortPriv% PySem.Builtin.mergeLo
theorem ex4 {α β γ δ ε:Type}{P:ε->Prop}{f:α->β->γ->δ->ε}{A:Prop}{R L:α->β->γ->δ->Prop}(h:∀ a b c d,A->R a b c d->L a b c d->P (f a b c d)):∀ e,(A∧∃ a b c d,e=f a b c d∧R a b c d∧L a b c d)->P e:=by
 rintro e ⟨x,a,b,c,d,rfl,r,l⟩
 exact h a b c d x r l
theorem ex5 {α β γ δ ζ ε:Type}{P:ε->Prop}{f:α->β->γ->δ->ζ->ε}{A:Prop}{R L:α->β->γ->δ->ζ->Prop}(h:∀ a b c d z,A->R a b c d z->L a b c d z->P (f a b c d z)):∀ e,(A∧∃ a b c d z,e=f a b c d z∧R a b c d z∧L a b c d z)->P e:=by
 rintro e ⟨x,a,b,c,d,z,rfl,r,l⟩
 exact h a b c d z x r l
theorem ex6 {α β γ δ ζ η ε:Type}{P:ε->Prop}{f:α->β->γ->δ->ζ->η->ε}{A:Prop}{R L:α->β->γ->δ->ζ->η->Prop}(h:∀ a b c d z y,A->R a b c d z y->L a b c d z y->P (f a b c d z y)):∀ e,(A∧∃ a b c d z y,e=f a b c d z y∧R a b c d z y∧L a b c d z y)->P e:=by
 rintro e ⟨x,a,b,c,d,z,y,rfl,r,l⟩
 exact h a b c d z y x r l
theorem or6 {α β γ δ ρ:Type}{P:Option α×β×γ×δ×ρ->Prop}{A:Prop}{F:α->Prop}(G L:β->γ->δ->Prop)(h1:∀ r b c d e,A->F r->P (some r,b,c,d,e))(h2:∀ b c d e,A->G b c d->L b c d->P (none,b,c,d,e)) :
  ∀ x,(A∧((∃ r,x.1=some r∧F r)∨(x.1=none∧G x.2.1 x.2.2.1 x.2.2.2.1∧L x.2.1 x.2.2.1 x.2.2.2.1)))->P x:=by
 rintro ⟨o,b,c,d,e⟩ ⟨x,⟨r,e1,f⟩ | ⟨e1,g,l⟩⟩
 ·obtain rfl:o=some r:=e1
  exact h1 r b c d e x f
 ·obtain rfl:o=none:=e1
  exact h2 b c d e x g l
def Nk (a b o:Array Keyed)(i j:Nat):StateT SortSt Sem (Array Keyed):=do
 let tot:=a.size+b.size
 let dn (o:Array Keyed) (i j:Nat):=o++a.extract i a.size++b.extract j b.size
 let la (o:Array Keyed) (i j:Nat):=o++b.extract j b.size++a.extract i a.size
 let mut o:=o
 let mut i:=i
 let mut j:=j
 let mut g:=gallopOf (<- get)
 for _ in [0:tot] do
  let mut p:=0
  let mut q:=0
  for _ in [0:tot] do
   let some t <- lt' (<- elem' b j) (<- elem' a i) | return dn o i j
   if t then
    o:=o.push (<- elem' b j);j:=j+1;q:=q+1;p:=0
    if j==b.size then return dn o i j
    if q≥g then break
   else
    o:=o.push (<- elem' a i);i:=i+1;p:=p+1;q:=0
    if i+1==a.size then return la o i j
    if p≥g then break
  rule "list.sort.gallop"
  g:=g+1
  for _ in [0:tot] do
   if g>1 then g:=g-1
   Bl g
   let some k <- nK false (<- elem' b j) a i (a.size-i) 0 | return dn o i j
   p:=k
   if k>0 then
    o:=o++a.extract i (i+k);i:=i+k
    if i+1==a.size then return la o i j
    if i==a.size then return dn o i j
   o:=o.push (<- elem' b j);j:=j+1
   if j==b.size then return dn o i j
   let some k <- nK true (<- elem' a i) b j (b.size-j) 0 | return dn o i j
   q:=k
   if k>0 then
    o:=o++b.extract j (j+k);j:=j+k
    if j==b.size then return dn o i j
   o:=o.push (<- elem' a i);i:=i+1
   if i+1==a.size then return la o i j
   if p<7&&q<7 then break
  g:=g+1
  Bl g
 unsupported "internal:list.sort.merge-bound"
theorem Iv (a b:Array Keyed):Ko a b=(do
 rule "list.sort.merge-lo"
 let x <- elem' b 0
 if 1==b.size then return #[x]++a.extract 0 a.size++b.extract 1 b.size
 if 0+1==a.size then return #[x]++b.extract 1 b.size++a.extract 0 a.size
 Nk a b #[x] 0 1):=rfl
def kf (κ:KeyKind)(p:Keyed):κ.α:=(κ.keyOf p.1).getD κ.dflt
def Le (κ:KeyKind)(x y:Keyed):Prop:=κ.kle (kf κ x) (kf κ y)
def Hk (κ:KeyKind)(x:Keyed):Prop:=∃ c,κ.keyOf x.1=some c
set_option genInjectivity false in
structure Ev (st st':SortSt):Prop where
 knd:kindOf st'=kindOf st
 arr:arrOf st'=arrOf st
 pen:pendingOf st'=pendingOf st
 ffl:failedOf st'=failedOf st
theorem Ev.r {st:SortSt}:Ev st st:=⟨rfl,rfl,rfl,rfl⟩
theorem Ev.t {a b c:SortSt}(h:Ev a b)(h':Ev b c):Ev a c:=⟨h'.knd.trans h.knd,h'.arr.trans h.arr,h'.pen.trans h.pen,h'.ffl.trans h.ffl⟩
section
variable {prog:Program}{w:World}{A:Around}{E:Value->Shared->Prop}{s:Shared}{z:Array Keyed}{κ:KeyKind}{kd:SortKind}
theorem gP {st:SortSt}{a:Array Keyed}{i:Nat}{Q:Keyed->SortSt->Prop}(hi:i<a.size)(h:Q a[i] st):wpS (model prog w) A E s (elem' a i) Q st:=by
 rw [elem'_eq,getElem?_pos a i hi]
 exact wpS_pure h
theorem tQ {st:SortSt}{g:Nat}{Q:Unit->SortSt->Prop}(h:∀ st',Ev st st'->Q () st'):wpS (model prog w) A E s (Bl g) Q st:=by
 unfold Bl
 exact wpS_modify (h _ ⟨rfl,rfl,rfl,rfl⟩)
theorem jS {x:Keyed}{c:κ.α}(h:κ.keyOf x.1=some c):kf κ x=c:=by unfold kf;rw [h];rfl
theorem Kc {st:SortSt}{x y:Keyed}{Q:Option Bool->SortSt->Prop}(hO:LtR prog w A E s κ kd)(hk:kindOf st=kd)(hx:Hk κ x)(hy:Hk κ y)(h:Q (some (κ.blt (kf κ x) (kf κ y))) st):wpS (model prog w) A E s (lt' x y) Q st:=by
 obtain ⟨c,hc⟩:=hx
 obtain ⟨d,hd⟩:=hy
 rw [jS hc,jS hd] at h
 exact Fm hO hk hc hd h
theorem yG {st:SortSt}{key:Keyed}{a:Array Keyed}{i n hint:Nat}{Q:Option Nat->SortSt->Prop}(hO:LtR prog w A E s κ kd)(hk:kindOf st=kd)(hin:i+n<=a.size)(hh:hint<n)(hka:∀ x∈a.toList,Hk κ x)(hkk:Hk κ key)(hs:((a.toList.drop i).take n).Pairwise (Le κ))
  (h:∀ k,k<=n->(∀ x∈(a.toList.drop i).take k,Le κ x key)->(∀ x∈(a.toList.drop (i+k)).take (n-k),Le κ key x)->Q (some k) st):wpS (model prog w) A E s (nK false key a i n hint) Q st:=by
 have get:∀ t,t<n->((a.toList.drop i).take n)[t]?=a[i+t]?:=fun t ht=>by
  rw [List.getElem?_take_of_lt ht,List.getElem?_drop,Array.getElem?_toList]
 have hsz:∀ t,t<n->i+t<a.size:=fun t ht=>by omega
 have hmem:∀ t (ht:t<n),Hk κ (a[i+t]'(hsz t ht)):=fun t ht=>hka _ (by simp)
 have hpw:∀ p q (hq:q<n) (hpq:p<=q),Le κ (a[i+p]'(hsz p (by omega))) (a[i+q]'(hsz q hq)):=fun p q hq hpq=>by
  rcases Nat.lt_or_eq_of_le hpq with g | g
  ·rw [List.pairwise_iff_getElem] at hs
   have hl:((a.toList.drop i).take n).length=n:=by rw [List.length_take,List.length_drop,Array.length_toList];omega
   have:=hs p q (by omega) (by omega) g
   simpa using this
  ·subst g;exact KeyOrd.kle_refl _
 refine Jr (b:=fun t=>if ht:t<n then !κ.blt (kf κ key) (kf κ (a[i+t]'(hsz t ht))) else false) hh (fun t R ht hR=>?_) (fun p q hpq hq hb=>?_) (fun k hkn h1 h2=>h k hkn (fun x hx=>?_) (fun x hx=>?_))
 ·obtain ⟨c,hc⟩:=hmem t ht
  obtain ⟨d,hd⟩:=hkk
  refine Nq hO hk (getElem?_pos a (i+t) (hsz t ht)) hc hd ?_
  simp only [Bool.false_eq_true,if_false]
  rw [dif_pos ht,jS hc,jS hd] at hR
  exact hR
 ·rw [dif_pos hq] at hb
  rw [dif_pos (by omega)]
  have h3:κ.kle (kf κ (a[i+q]'(hsz q hq))) (kf κ key):=by simpa [KeyOrd.kle] using hb
  have h4:=KeyOrd.kle_trans (hpw p q hq hpq) h3
  simpa [KeyOrd.kle] using h4
 ·obtain ⟨t,ht⟩:=List.mem_iff_getElem?.mp hx
  have htk:t<k:=by
   have:=(List.getElem?_eq_some_iff.mp ht).1
   rw [List.length_take] at this;omega
  rw [List.getElem?_take_of_lt htk,List.getElem?_drop,Array.getElem?_toList,getElem?_pos a (i+t) (hsz t (by omega))] at ht
  have h3:=h1 t htk
  rw [dif_pos (by omega)] at h3
  rw [<- Option.some.inj ht]
  show κ.kle _ _
  simpa [KeyOrd.kle] using h3
 ·obtain ⟨t,ht⟩:=List.mem_iff_getElem?.mp hx
  have htk:t<n-k:=by
   have:=(List.getElem?_eq_some_iff.mp ht).1
   rw [List.length_take] at this;omega
  rw [List.getElem?_take_of_lt htk,List.getElem?_drop,Array.getElem?_toList,show i+k+t=i+(k+t) by omega,getElem?_pos a (i+(k+t)) (hsz (k+t) (by omega))] at ht
  have h3:=h2 (k+t) (by omega) (by omega)
  rw [dif_pos (by omega)] at h3
  rw [<- Option.some.inj ht]
  exact KeyOrd.kle_of_klt (by simpa [KeyOrd.klt] using h3)
theorem xL {st:SortSt}{key:Keyed}{a:Array Keyed}{i n hint:Nat}{Q:Option Nat->SortSt->Prop}(hO:LtR prog w A E s κ kd)(hk:kindOf st=kd)(hin:i+n<=a.size)(hh:hint<n)(hka:∀ x∈a.toList,Hk κ x)(hkk:Hk κ key)(hs:((a.toList.drop i).take n).Pairwise (Le κ))
  (h:∀ k,k<=n->(∀ x∈(a.toList.drop i).take k,Le κ x key)->(∀ x∈(a.toList.drop (i+k)).take (n-k),Le κ key x)->Q (some k) st):wpS (model prog w) A E s (nK true key a i n hint) Q st:=by
 have hsz:∀ t,t<n->i+t<a.size:=fun t ht=>by omega
 have hmem:∀ t (ht:t<n),Hk κ (a[i+t]'(hsz t ht)):=fun t ht=>hka _ (by simp)
 have hpw:∀ p q (hq:q<n) (hpq:p<=q),Le κ (a[i+p]'(hsz p (by omega))) (a[i+q]'(hsz q hq)):=fun p q hq hpq=>by
  rcases Nat.lt_or_eq_of_le hpq with g | g
  ·rw [List.pairwise_iff_getElem] at hs
   have hl:((a.toList.drop i).take n).length=n:=by rw [List.length_take,List.length_drop,Array.length_toList];omega
   have:=hs p q (by omega) (by omega) g
   simpa using this
  ·subst g;exact KeyOrd.kle_refl _
 refine Jr (b:=fun t=>if ht:t<n then κ.blt (kf κ (a[i+t]'(hsz t ht))) (kf κ key) else false) hh (fun t R ht hR=>?_) (fun p q hpq hq hb=>?_) (fun k hkn h1 h2=>h k hkn (fun x hx=>?_) (fun x hx=>?_))
 ·obtain ⟨c,hc⟩:=hmem t ht
  obtain ⟨d,hd⟩:=hkk
  refine Nq hO hk (getElem?_pos a (i+t) (hsz t ht)) hc hd ?_
  simp only [if_true]
  rw [dif_pos ht,jS hc,jS hd] at hR
  exact hR
 ·rw [dif_pos hq] at hb
  rw [dif_pos (by omega)]
  exact KeyOrd.klt_of_kle_of_klt (hpw p q hq hpq) hb
 ·obtain ⟨t,ht⟩:=List.mem_iff_getElem?.mp hx
  have htk:t<k:=by
   have:=(List.getElem?_eq_some_iff.mp ht).1
   rw [List.length_take] at this;omega
  rw [List.getElem?_take_of_lt htk,List.getElem?_drop,Array.getElem?_toList,getElem?_pos a (i+t) (hsz t (by omega))] at ht
  have h3:=h1 t htk
  rw [dif_pos (by omega)] at h3
  rw [<- Option.some.inj ht]
  exact KeyOrd.kle_of_klt h3
 ·obtain ⟨t,ht⟩:=List.mem_iff_getElem?.mp hx
  have htk:t<n-k:=by
   have:=(List.getElem?_eq_some_iff.mp ht).1
   rw [List.length_take] at this;omega
  rw [List.getElem?_take_of_lt htk,List.getElem?_drop,Array.getElem?_toList,show i+k+t=i+(k+t) by omega,getElem?_pos a (i+(k+t)) (hsz (k+t) (by omega))] at ht
  have h3:=h2 (k+t) (by omega) (by omega)
  rw [dif_pos (by omega)] at h3
  rw [<- Option.some.inj ht]
  exact h3
end
end SR
set_option autoImplicit false
namespace SR
open PySem PyProof.Rows
section
variable {prog:Program}{w:World}{A:Around}{E:Value->Shared->Prop}{s:Shared}{κ:KeyKind}{kd:SortKind}
theorem Le.tr {x y t:Keyed}(h:Le κ x y)(h':Le κ y t):Le κ x t:=KeyOrd.kle_trans h h'
theorem zH {l:List Keyed}{x:Keyed}(h:(x::l).Pairwise (Le κ)):∀ y∈x::l,Le κ x y:=fun y hy=>by
 rcases List.mem_cons.mp hy with g | g
 ·rw [g];exact KeyOrd.kle_refl _
 ·exact (List.pairwise_cons.mp h).1 y g
theorem nT {a:Array Keyed}{i:Nat}(hi:i<a.size)(h:(a.toList.drop i).Pairwise (Le κ)):∀ y∈a.toList.drop i,Le κ a[i] y:=by
 rw [gZ hi] at h ⊢
 exact zH h
set_option genInjectivity false in
structure GL (κ:KeyKind)(a b o:Array Keyed)(i j:Nat):Prop where
 mi:MI (Le κ) (a.toList++b.toList) o.toList (a.toList.drop i) (b.toList.drop j)
 hi:i+1<a.size
 hj:j<b.size
abbrev Mb:=Option (Array Keyed)×Array Keyed×Nat×Nat×Nat×Nat×Nat
def lo3 (a b o:Array Keyed)(i j g p q:Nat):StateT SortSt Sem (ForInStep Mb):=do
 let x <- elem' a i
 if (i+1+1==a.size)=true then pure (ForInStep.done (some (o.push x++b.extract j b.size++a.extract (i+1) a.size),o.push x,i+1,j,g,p,q))
 else if (decide (p<7)&&decide (q<7))=true then pure (ForInStep.done (none,o.push x,i+1,j,g,p,q)) else pure (ForInStep.yield (none,o.push x,i+1,j,g,p,q))
def lo2 (a b o:Array Keyed)(i j g p q:Nat):StateT SortSt Sem (ForInStep Mb):=do
 let x <- elem' b j
 if (j+1==b.size)=true then pure (ForInStep.done (some (o.push x++a.extract i a.size++b.extract (j+1) b.size),o.push x,i,j+1,g,p,q))
 else do
  let u <- elem' a i
  let z <- nK true u b (j+1) (b.size-(j+1)) 0
  match z with
  | some k =>
   if k>0 then
    if (j+1+k==b.size)=true then pure (ForInStep.done (some (o.push x++b.extract (j+1) (j+1+k)++a.extract i a.size++b.extract (j+1+k) b.size),o.push x++b.extract (j+1) (j+1+k),i,j+1+k,g,p,k))
    else lo3 a b (o.push x++b.extract (j+1) (j+1+k)) i (j+1+k) g p k
   else lo3 a b (o.push x) i (j+1) g p k
  | _=>pure (ForInStep.done (some (o.push x++a.extract i a.size++b.extract (j+1) b.size),o.push x,i,j+1,g,p,q))
abbrev LoR (κ:KeyKind)(a b:Array Keyed)(st:SortSt)(m:Nat):ForInStep Mb->SortSt->Prop:=fun r st'=>match r with
 | .yield c=>Ev st st'∧∃ o i j g p q,c=(none,o,i,j,g,p,q)∧GL κ a b o i j∧m<=i+j
 | .done c=>Ev st st'∧((∃ r,c.1=some r∧Fi (Le κ) (a.toList++b.toList) r)∨(c.1=none∧GL κ a b c.2.1 c.2.2.1 c.2.2.2.1∧m<=c.2.2.1+c.2.2.2.1))
theorem Ji {st st4:SortSt}{a b o7:Array Keyed}{i j g p q m:Nat}(he5:Ev st st4)(hi:i+1<a.size)(hj:j<b.size)(hl:∀ y∈b.toList,∀ x,a.toList.getLast?=some x->Le κ y x)(m3:MI (Le κ) (a.toList++b.toList) o7.toList (a.toList.drop i) (b.toList.drop j))(e2':∀ x∈b.toList.drop j,Le κ (a[i]'(by omega)) x)(hm:m<=i+1+j) :
  wpS (model prog w) A E s (lo3 a b o7 i j g p q) (LoR κ a b st m) st4:=by
 unfold lo3
 refine wpS_bind (gP (by omega) ?_)
 have m4:=m3.pushA (by omega) fun y hy=>e2' y hy
 by_cases ha4:i+1+1=a.size
 ·rw [if_pos (by simpa using ha4)]
  exact wpS_pure ⟨he5,.inl ⟨_,rfl,m4.lastA ha4 hl⟩⟩
 rw [if_neg (by simpa using ha4)]
 split
 ·exact wpS_pure ⟨he5,.inr ⟨rfl,⟨m4,by dsimp only;omega,hj⟩,hm⟩⟩
 ·exact wpS_pure ⟨he5,_,_,_,_,_,_,rfl,⟨m4,by omega,hj⟩,hm⟩
theorem Jj {st st4:SortSt}{a b o5:Array Keyed}{i j g p q m:Nat}(hO:LtR prog w A E s κ kd)(hk:kindOf st4=kd)(hka:∀ x∈a.toList,Hk κ x)(hkb:∀ x∈b.toList,Hk κ x)(hl:∀ y∈b.toList,∀ x,a.toList.getLast?=some x->Le κ y x)
  (he5:Ev st st4) (hi:i+1<a.size) (hj:j<b.size) (m1:MI (Le κ) (a.toList++b.toList) o5.toList (a.toList.drop i) (b.toList.drop j)) (k2':∀ x∈a.toList.drop i,Le κ b[j] x) (hm:m<=i+j) :
  wpS (model prog w) A E s (lo2 a b o5 i j g p q) (LoR κ a b st m) st4:=by
 unfold lo2
 refine wpS_bind (gP hj ?_)
 have m2:=(m1.sw.pushA hj fun y hy=>k2' y hy).sw
 by_cases hb2:j+1=b.size
 ·rw [if_pos (by simpa using hb2)]
  exact wpS_pure ⟨he5,.inl ⟨_,rfl,m2.doneA (by omega)⟩⟩
 rw [if_neg (by simpa using hb2)]
 generalize o5.push b[j]=o6 at m2 ⊢
 refine wpS_bind (gP (by omega) ?_)
 refine wpS_bind (xL hO hk (show j+1+(b.size-(j+1))<=b.size by omega) (by omega) hkb (hka _ (by simp)) (m2.sb.sublist (List.take_sublist _ _)) fun e hen e1 e2=>?_)
 dsimp only
 have e2':∀ x∈b.toList.drop (j+1+e),Le κ (a[i]'(by omega)) x:=fun x hx=>e2 x (by rw [List.take_of_length_le (by rw [List.length_drop,Array.length_toList];omega)];exact hx)
 have m3:=(m2.sw.blkA (k:=e) fun x hx y hy=>Le.tr (e1 x hx) (nT (by omega) m2.sa y hy)).sw
 by_cases hep:e>0
 ·rw [if_pos hep]
  by_cases hb3:j+1+e=b.size
  ·rw [if_pos (by simpa using hb3)]
   exact wpS_pure ⟨he5,.inl ⟨_,rfl,m3.doneA (by omega)⟩⟩
  rw [if_neg (by simpa using hb3)]
  exact Ji he5 hi (by omega) hl m3 e2' (by omega)
 ·rw [if_neg hep]
  obtain rfl:e=0:=by omega
  exact Ji he5 hi (by omega) hl m2 e2' (by omega)
theorem Oy {st:SortSt}{a b:Array Keyed}{Q:Array Keyed->SortSt->Prop}(hO:LtR prog w A E s κ kd)(hk:kindOf st=kd)(ha:0<a.size)(hb:0<b.size)(hka:∀ x∈a.toList,Hk κ x)(hkb:∀ x∈b.toList,Hk κ x)
  (sa:a.toList.Pairwise (Le κ)) (sb:b.toList.Pairwise (Le κ)) (h0:∀ y∈a.toList,Le κ b[0] y) (hl:∀ y∈b.toList,∀ x,a.toList.getLast?=some x->Le κ y x)
  (h:∀ r st',Ev st st'->Fi (Le κ) (a.toList++b.toList) r->Q r st'):wpS (model prog w) A E s (Ko a b) Q st:=by
 rw [Iv]
 refine wpS_bind (wpS_lift (wpAny_rule ⟨rfl,?_⟩))
 refine wpS_bind (gP hb ?_)
 have m0:MI (Le κ) (a.toList++b.toList) #[b[0]].toList (a.toList.drop 0) (b.toList.drop 1):=by
  have m:MI (Le κ) (a.toList++b.toList) (#[]:Array Keyed).toList (b.toList.drop 0) (a.toList.drop 0):=(⟨List.Pairwise.nil,fun x hx=>(nomatch hx),List.Perm.refl _,by simpa using sa,by simpa using sb⟩:MI (Le κ) (a.toList++b.toList) [] (a.toList.drop 0) (b.toList.drop 0)).sw
  exact (m.pushA hb (fun y hy=>h0 y (List.mem_of_mem_drop hy))).sw
 have mema:∀ {i:Nat} (g:i<a.size),Hk κ a[i]:=fun g=>hka _ (by simp)
 have memb:∀ {i:Nat} (g:i<b.size),Hk κ b[i]:=fun g=>hkb _ (by simp)
 by_cases hb1:1=b.size
 ·rw [if_pos (by simpa using hb1)]
  exact wpS_pure (h _ st Ev.r (m0.doneA (by omega)))
 rw [if_neg (by simpa using hb1)]
 by_cases ha1:0+1=a.size
 ·rw [if_pos (by simpa using ha1)]
  exact wpS_pure (h _ st Ev.r (m0.lastA ha1 hl))
 rw [if_neg (by simpa using ha1)]
 unfold Nk
 dsimp only
 refine wpS_bind (wpS_get ?_)
 refine wpS_bind (wpS_mono (wpS_forRange (I:=fun x c st'=>Ev st st'∧∃ o i j g,c=(none,o,i,j,g)∧GL κ a b o i j∧x<=i+j)
  (Q:=fun c st'=>Ev st st'∧∃ r,c.1=some r∧Fi (Le κ) (a.toList++b.toList) r) ?sp ?fi ⟨Ev.r,_,0,1,_,rfl,⟨m0,by omega,by omega⟩,by omega⟩) ?po)
 case po =>
  rintro ⟨o,rest⟩ st' ⟨he,r,e1,hf⟩
  dsimp only at e1 ⊢
  subst e1
  exact wpS_pure (h r st' he hf)
 case fi =>
  rintro c st' ⟨he,o,i,j,g,rfl,hg,hx⟩
  have:=hg.hi
  have:=hg.hj
  omega
 case sp =>
  intro x c st1 _ hx
  revert c
  refine ex4 fun o0 i0 j0 g0 he1 hg0 hxx=>?_
  dsimp only
  refine wpS_bind (wpS_mono (wpS_forRange (I:=fun x c st'=>Ev st st'∧∃ o i j p q,c=(none,o,i,j,p,q)∧GL κ a b o i j∧i0+j0+x<=i+j)
   (Q:=fun c st'=>Ev st st'∧((∃ r,c.1=some r∧Fi (Le κ) (a.toList++b.toList) r)∨(c.1=none∧GL κ a b c.2.1 c.2.2.1 c.2.2.2.1∧i0+j0+1<=c.2.2.1+c.2.2.2.1))) ?sp1 ?fi1 ⟨he1,o0,i0,j0,0,0,rfl,hg0,by omega⟩) ?po1)
  case fi1 =>
   rintro c st' ⟨he,o,i,j,p,q,rfl,hg,hx2⟩
   exact ⟨he,.inr ⟨rfl,hg,by dsimp only;omega⟩⟩
  case sp1 =>
   intro x1 c st2 _ hx1
   revert c
   refine ex5 fun o i j p q he2 hg hx2=>?_
   have hi:=hg.hi
   have hj:=hg.hj
   dsimp only
   refine wpS_bind (gP hj (wpS_bind (gP (by omega) ?_)))
   refine wpS_bind (Kc hO (he2.knd.trans hk) (memb hj) (mema (by omega)) ?_)
   dsimp only
   cases ht:κ.blt (kf κ b[j]) (kf κ (a[i]'(by omega))) with
   | true =>
    rw [if_pos rfl]
    refine wpS_bind (gP hj ?_)
    have m1:=(hg.mi.sw.pushA hj fun y hy=>Le.tr (KeyOrd.kle_of_klt ht) (nT (by omega) hg.mi.sa y hy)).sw
    by_cases hb2:j+1=b.size
    ·rw [if_pos (by simpa using hb2)]
     exact wpS_pure ⟨he2,.inl ⟨_,rfl,m1.doneA (by omega)⟩⟩
    ·rw [if_neg (by simpa using hb2)]
     have g1:GL κ a b (o.push b[j]) i (j+1):=⟨m1,hi,by omega⟩
     split
     ·exact wpS_pure ⟨he2,.inr ⟨rfl,g1,by dsimp only;omega⟩⟩
     ·exact wpS_pure ⟨he2,_,_,_,_,_,rfl,g1,by omega⟩
   | false =>
    rw [if_neg Bool.false_ne_true]
    refine wpS_bind (gP (by omega) ?_)
    have m1:=hg.mi.pushA (by omega) fun y hy=>Le.tr (show Le κ _ b[j] from ht) (nT hj hg.mi.sb y hy)
    by_cases ha2:i+1+1=a.size
    ·rw [if_pos (by simpa using ha2)]
     exact wpS_pure ⟨he2,.inl ⟨_,rfl,m1.lastA ha2 hl⟩⟩
    ·rw [if_neg (by simpa using ha2)]
     have g1:GL κ a b (o.push (a[i]'(by omega))) (i+1) j:=⟨m1,by omega,hj⟩
     split
     ·exact wpS_pure ⟨he2,.inr ⟨rfl,g1,by dsimp only;omega⟩⟩
     ·exact wpS_pure ⟨he2,_,_,_,_,_,rfl,g1,by omega⟩
  case po1 =>
   intro c st2
   revert c
   refine or6 (fun o i j=>GL κ a b o i j) (fun o i j=>i0+j0+1<=i+j) (fun r o1 i1 j1 e he2 hf=>?_) (fun o1 i1 j1 e he2 hg1 hx2=>?_)
   ·exact wpS_pure ⟨he2,r,rfl,hf⟩
   ·dsimp only
    refine wpS_bind (wpS_lift (wpAny_rule ⟨rfl,?_⟩))
    refine wpS_bind (wpS_mono (wpS_forRange (I:=fun x c st'=>Ev st st'∧∃ o i j g p q,c=(none,o,i,j,g,p,q)∧GL κ a b o i j∧i1+j1<=i+j)
     (Q:=fun c st'=>Ev st st'∧((∃ r,c.1=some r∧Fi (Le κ) (a.toList++b.toList) r)∨(c.1=none∧GL κ a b c.2.1 c.2.2.1 c.2.2.2.1∧i1+j1<=c.2.2.1+c.2.2.2.1))) ?sp2 ?fi2 ⟨he2,o1,i1,j1,_,_,_,rfl,hg1,by omega⟩) ?po2)
    case fi2 =>
     rintro c st' ⟨he,o,i,j,g,p,q,rfl,hg,hx2⟩
     exact ⟨he,.inr ⟨rfl,hg,hx2⟩⟩
    case po2 =>
     intro c st3
     revert c
     refine or6 (fun o i j=>GL κ a b o i j) (fun o i j=>i1+j1<=i+j) (fun r o2 i2 j2 e he3 hf=>?_) (fun o2 i2 j2 e he3 hg2 hx3=>?_)
     ·exact wpS_pure ⟨he3,r,rfl,hf⟩
     ·dsimp only
      exact wpS_bind (tQ fun st4 he4=>wpS_pure ⟨he3.t he4,o2,i2,j2,_,rfl,hg2,by omega⟩)
    case sp2 =>
     intro x2 c st3 _ hx3
     revert c
     refine ex6 fun o i j g p q he3 hg hxx2=>?_
     have hi:=hg.hi
     have hj:=hg.hj
     dsimp only
     refine have key:∀ g1:Nat,wpS (model prog w) A E s ((?F:Nat->StateT SortSt Sem ?α) g1) ?QQ st3:=?key;?main
     case main =>
      by_cases hgg:g>1
      ·rw [if_pos hgg];generalize g-1=g1;exact key g1
      ·rw [if_neg hgg];generalize g=g1;exact key g1
     case key =>
      intro g1
      refine wpS_bind (tQ fun st4 he4=>?_)
      have he5:=he3.t he4
      refine wpS_bind (gP hj ?_)
      refine wpS_bind (yG hO (he5.knd.trans hk) (show i+(a.size-i)<=a.size by omega) (by omega) hka (memb hj) (hg.mi.sa.sublist (List.take_sublist _ _)) fun k hkn k1 k2=>?_)
      dsimp only
      have k2':∀ x∈a.toList.drop (i+k),Le κ b[j] x:=fun x hx=>k2 x (by rw [List.take_of_length_le (by rw [List.length_drop,Array.length_toList];omega)];exact hx)
      have m1:=hg.mi.blkA (k:=k) fun x hx y hy=>Le.tr (k1 x hx) (nT hj hg.mi.sb y hy)
      by_cases hkp:k>0
      ·rw [if_pos hkp]
       by_cases ha2:i+k+1=a.size
       ·rw [if_pos (by simpa using ha2)]
        exact wpS_pure ⟨he5,.inl ⟨_,rfl,m1.lastA ha2 hl⟩⟩
       rw [if_neg (by simpa using ha2)]
       by_cases ha3:i+k=a.size
       ·rw [if_pos (by simpa using ha3)]
        exact wpS_pure ⟨he5,.inl ⟨_,rfl,m1.doneB (by omega)⟩⟩
       rw [if_neg (by simpa using ha3)]
       refine Ay (m':=lo2 a b (o++a.extract i (i+k)) (i+k) j g1 k q) rfl ?_
       exact wpS_mono (Jj (m:=i1+j1) hO (he5.knd.trans hk) hka hkb hl he5 (by omega) hj m1 k2' (by omega)) fun r st' hr=>by cases r <;> exact hr
      ·rw [if_neg hkp]
       obtain rfl:k=0:=by omega
       refine Ay (m':=lo2 a b o i j g1 0 q) rfl ?_
       exact wpS_mono (Jj (m:=i1+j1) hO (he5.knd.trans hk) hka hkb hl he5 hi hj hg.mi k2' (by omega)) fun r st' hr=>by cases r <;> exact hr
end
end SR
set_option autoImplicit false
namespace SR
open PySem PyProof.Rows
def Ge (κ:KeyKind)(x y:Keyed):Prop:=Le κ y x
def rt (a:Array Keyed)(n:Nat):List Keyed:=(a.toList.take n).reverse
theorem tS {a:Array Keyed}{n:Nat}(h:n<a.size):rt a (n+1)=a[n]::rt a n:=by
 unfold rt
 rw [List.take_add_one,Array.getElem?_toList,getElem?_pos a n h]
 simp
theorem Fe {a:Array Keyed}{k n:Nat}(h:k<=n):rt a n=((a.toList.drop k).take (n-k)).reverse++rt a k:=by
 unfold rt
 rw [<- List.reverse_append]
 congr 1
 rw [show n=k+(n-k) by omega,List.take_add,Nat.add_sub_cancel_left]
theorem Ie {a:Array Keyed}{k n:Nat}:(a.extract k n).reverse.toList=((a.toList.drop k).take (n-k)).reverse:=by
 rw [Array.toList_reverse,Array.toList_extract,List.extract_eq_take_drop]
theorem MI.pushT {R:Keyed->Keyed->Prop}{Z:List Keyed}{o a:Array Keyed}{n:Nat}{rb:List Keyed}(h:MI R Z o.toList (rt a (n+1)) rb)(hn:n<a.size)(hu:∀ y∈rb,R a[n] y):MI R Z (o.push a[n]).toList (rt a n) rb:=by
 rw [tS hn,<- List.singleton_append] at h
 have:=h.blk fun x hx y hy=>by rw [List.mem_singleton.mp hx];exact hu y hy
 rw [Array.toList_push]
 exact this
theorem MI.blkT {R:Keyed->Keyed->Prop}{Z:List Keyed}{o a:Array Keyed}{k n:Nat}{rb:List Keyed}(h:MI R Z o.toList (rt a n) rb)(hk:k<=n)(hu:∀ x∈(a.toList.drop k).take (n-k),∀ y∈rb,R x y):MI R Z (o++(a.extract k n).reverse).toList (rt a k) rb:=by
 rw [Fe hk] at h
 rw [Array.toList_append,Ie]
 exact h.blk fun x hx y hy=>hu x (List.mem_reverse.mp hx) y hy
theorem wU {κ:KeyKind}{Z:List Keyed}{r:Array Keyed}{l:List Keyed}(e:r.toList.reverse=l)(h:l.Perm Z∧l.Pairwise (Ge κ)):Fi (Le κ) Z r:=by
 have e2:r.toList=l.reverse:=by rw [<- e,List.reverse_reverse]
 unfold Fi
 rw [e2]
 exact ⟨(List.reverse_perm l).trans h.1,List.pairwise_reverse.mpr h.2⟩
theorem mK (a:Array Keyed)(n:Nat):(a.extract 0 n).toList=a.toList.take n:=by
 rw [Array.toList_extract,List.extract_eq_take_drop,List.drop_zero,Nat.sub_zero]
theorem MI.doneT {κ:KeyKind}{Z:List Keyed}{o a b:Array Keyed}{m:Nat}(h:MI (Ge κ) Z o.toList (rt a 0) (rt b m)):Fi (Le κ) Z (a.extract 0 0++b.extract 0 m++o.reverse):=by
 refine wU (l:=o.toList++rt b m) ?_ ?_
 ·rw [Array.toList_append,Array.toList_append,mK,mK,Array.toList_reverse]
  simp [rt]
 ·have h2:MI (Ge κ) Z o.toList [] (rt b m):=h
  exact h2.sw.fin
theorem MI.doneT2 {κ:KeyKind}{Z:List Keyed}{o a b:Array Keyed}{n:Nat}(h:MI (Ge κ) Z o.toList (rt a n) (rt b 0)):Fi (Le κ) Z (a.extract 0 n++b.extract 0 0++o.reverse):=by
 refine wU (l:=o.toList++rt a n) ?_ ?_
 ·rw [Array.toList_append,Array.toList_append,mK,mK,Array.toList_reverse]
  simp [rt]
 ·have h2:MI (Ge κ) Z o.toList (rt a n) []:=h
  exact h2.fin
theorem MI.firstT {κ:KeyKind}{Z:List Keyed}{o a b:Array Keyed}{n:Nat}(hb:0<b.size)(h:MI (Ge κ) Z o.toList (rt a n) (rt b 1))(h0:∀ y∈a.toList,Le κ b[0] y):Fi (Le κ) Z (b.extract 0 1++a.extract 0 n++o.reverse):=by
 refine wU (l:=o.toList++rt a n++rt b 1) ?_ ?_
 ·rw [Array.toList_append,Array.toList_append,mK,mK,Array.toList_reverse]
  simp [rt]
 ·have e1:rt b 1=[b[0]]:=by rw [tS hb];rfl
  rw [show rt a n=rt a n++[] from (List.append_nil _).symm] at h
  have h2:=(h.blk fun x hx y hy=>by
   rw [e1,List.mem_singleton] at hy
   rw [hy]
   exact h0 x (List.mem_of_mem_take (List.mem_reverse.mp hx))).sw
  exact h2.fin
def Mu:Array Keyed->Array Keyed->StateT SortSt Sem (Array Keyed):=sortPriv% PySem.Builtin.mergeHi
def Pj (a b o:Array Keyed)(i j:Nat):StateT SortSt Sem (Array Keyed):=do
 let tot:=a.size+b.size
 let dn (o:Array Keyed) (i j:Nat):=a.extract 0 i++b.extract 0 j++o.reverse
 let fb (o:Array Keyed) (i j:Nat):=b.extract 0 j++a.extract 0 i++o.reverse
 let mut i:=i
 let mut j:=j
 let mut o:=o
 let mut g:=gallopOf (<- get)
 for _ in [0:tot] do
  let mut p:=0
  let mut q:=0
  for _ in [0:tot] do
   let some t <- lt' (<- elem' b (j-1)) (<- elem' a (i-1)) | return dn o i j
   if t then
    i:=i-1;o:=o.push (<- elem' a i);p:=p+1;q:=0
    if i==0 then return dn o i j
    if p≥g then break
   else
    j:=j-1;o:=o.push (<- elem' b j);q:=q+1;p:=0
    if j==1 then return fb o i j
    if q≥g then break
  rule "list.sort.gallop"
  g:=g+1
  for _ in [0:tot] do
   if g>1 then g:=g-1
   Bl g
   let some y <- nK false (<- elem' b (j-1)) a 0 i (i-1) | return dn o i j
   let k:=i-y
   p:=k
   if k>0 then
    o:=o++(a.extract y i).reverse;i:=y
    if i==0 then return dn o i j
   j:=j-1;o:=o.push (<- elem' b j)
   if j==1 then return fb o i j
   let some y <- nK true (<- elem' a (i-1)) b 0 j (j-1) | return dn o i j
   let k:=j-y
   q:=k
   if k>0 then
    o:=o++(b.extract y j).reverse;j:=y
    if j==1 then return fb o i j
    if j==0 then return dn o i j
   i:=i-1;o:=o.push (<- elem' a i)
   if i==0 then return dn o i j
   if p<7&&q<7 then break
  g:=g+1
  Bl g
 unsupported "internal:list.sort.merge-bound"
theorem Hx (a b:Array Keyed):Mu a b=(do
 rule "list.sort.merge-hi"
 let x <- elem' a (a.size-1)
 if a.size-1==0 then return a.extract 0 (a.size-1)++b.extract 0 b.size ++ #[x].reverse
 if b.size==1 then return b.extract 0 b.size++a.extract 0 (a.size-1) ++ #[x].reverse
 Pj a b #[x] (a.size-1) b.size):=rfl
section
variable {prog:Program}{w:World}{A:Around}{E:Value->Shared->Prop}{s:Shared}{κ:KeyKind}{kd:SortKind}
set_option genInjectivity false in
structure GH (κ:KeyKind)(a b o:Array Keyed)(i j:Nat):Prop where
 mi:MI (Ge κ) (a.toList++b.toList) o.toList (rt a i) (rt b j)
 hi:1<=i∧i<=a.size
 hj:2<=j∧j<=b.size
theorem yT {a:Array Keyed}{i:Nat}(hi:i<a.size)(h:(rt a (i+1)).Pairwise (Ge κ)):∀ y∈rt a (i+1),Ge κ a[i] y:=by
 rw [tS hi] at h ⊢
 intro y hy
 rcases List.mem_cons.mp hy with g | g
 ·rw [g];exact KeyOrd.kle_refl _
 ·exact (List.pairwise_cons.mp h).1 y g
theorem Ep {a:Array Keyed}{k:Nat}{x:Keyed}(h:x∈rt a k):x∈(a.toList.drop 0).take k:=by
 rw [List.drop_zero];exact List.mem_reverse.mp h
abbrev Mq:=Option (Array Keyed)×Nat×Nat×Array Keyed×Nat×Nat×Nat
def hi3 (a b o:Array Keyed)(i j g p q:Nat):StateT SortSt Sem (ForInStep Mq):=do
 let x <- elem' a (i-1)
 if (i-1==0)=true then pure (ForInStep.done (some (a.extract 0 (i-1)++b.extract 0 j++(o.push x).reverse),i-1,j,o.push x,g,p,q))
 else if (decide (p<7)&&decide (q<7))=true then pure (ForInStep.done (none,i-1,j,o.push x,g,p,q)) else pure (ForInStep.yield (none,i-1,j,o.push x,g,p,q))
def hi2 (a b o:Array Keyed)(i j g p q:Nat):StateT SortSt Sem (ForInStep Mq):=do
 let x <- elem' b j
 if (j==1)=true then pure (ForInStep.done (some (b.extract 0 j++a.extract 0 i++(o.push x).reverse),i,j,o.push x,g,p,q))
 else do
  let u <- elem' a (i-1)
  let z <- nK true u b 0 j (j-1)
  match z with
  | some y =>
   if j-y>0 then
    if (y==1)=true then pure (ForInStep.done (some (b.extract 0 y++a.extract 0 i++(o.push x++(b.extract y j).reverse).reverse),i,y,o.push x++(b.extract y j).reverse,g,p,j-y))
    else if (y==0)=true then pure (ForInStep.done (some (a.extract 0 i++b.extract 0 y++(o.push x++(b.extract y j).reverse).reverse),i,y,o.push x++(b.extract y j).reverse,g,p,j-y))
    else hi3 a b (o.push x++(b.extract y j).reverse) i y g p (j-y)
   else hi3 a b (o.push x) i j g p (j-y)
  | _=>pure (ForInStep.done (some (a.extract 0 i++b.extract 0 j++(o.push x).reverse),i,j,o.push x,g,p,q))
abbrev HiR (κ:KeyKind)(a b:Array Keyed)(st:SortSt)(m:Nat):ForInStep Mq->SortSt->Prop:=fun r st'=>match r with
 | .yield c=>Ev st st'∧∃ o i j g p q,c=(none,i,j,o,g,p,q)∧GH κ a b o i j∧i+j<=m
 | .done c=>Ev st st'∧((∃ r,c.1=some r∧Fi (Le κ) (a.toList++b.toList) r)∨(c.1=none∧GH κ a b c.2.2.2.1 c.2.1 c.2.2.1∧c.2.1+c.2.2.1<=m))
theorem Kd {st st4:SortSt}{a b o7:Array Keyed}{y e5 g p q5 m:Nat}(he5:Ev st st4)(hya:y<a.size)(m3:MI (Ge κ) (a.toList++b.toList) o7.toList (rt a (y+1)) (rt b e5))(e1':∀ x∈rt b e5,Le κ x a[y])(h2:2<=e5∧e5<=b.size)(hm:y+e5<=m) :
  wpS (model prog w) A E s (hi3 a b o7 (y+1) e5 g p q5) (HiR κ a b st m) st4:=by
 unfold hi3
 simp only [Nat.add_sub_cancel]
 refine wpS_bind (gP hya ?_)
 have m4:=m3.pushT hya fun u hu=>e1' u hu
 by_cases ha4:y=0
 ·rw [if_pos (by simpa using ha4)]
  subst ha4
  exact wpS_pure ⟨he5,.inl ⟨_,rfl,m4.doneT⟩⟩
 rw [if_neg (by simpa using ha4)]
 split
 ·exact wpS_pure ⟨he5,.inr ⟨rfl,⟨m4,by dsimp only;omega,h2⟩,hm⟩⟩
 ·exact wpS_pure ⟨he5,_,_,_,_,_,_,rfl,⟨m4,by omega,h2⟩,hm⟩
theorem Kg {st st4:SortSt}{a b o5:Array Keyed}{y j g p q m:Nat}(hO:LtR prog w A E s κ kd)(hk:kindOf st4=kd)(hb:0<b.size)(hka:∀ x∈a.toList,Hk κ x)(hkb:∀ x∈b.toList,Hk κ x)(sb:b.toList.Pairwise (Le κ))(h0:∀ y∈a.toList,Le κ b[0] y)
  (he5:Ev st st4) (hya:y<a.size) (hj:1<=j∧j<b.size) (m1:MI (Ge κ) (a.toList++b.toList) o5.toList (rt a (y+1)) (rt b (j+1))) (k1':∀ x∈rt a (y+1),Le κ x b[j]) (hm:y+j<=m) :
  wpS (model prog w) A E s (hi2 a b o5 (y+1) j g p q) (HiR κ a b st m) st4:=by
 unfold hi2
 refine wpS_bind (gP hj.2 ?_)
 have m2:=(m1.sw.pushT hj.2 fun u hu=>k1' u hu).sw
 by_cases hb2:j=1
 ·rw [if_pos (by simpa using hb2)]
  subst hb2
  exact wpS_pure ⟨he5,.inl ⟨_,rfl,m2.firstT hb h0⟩⟩
 rw [if_neg (by simpa using hb2)]
 generalize o5.push b[j]=o6 at m2 ⊢
 simp only [Nat.add_sub_cancel]
 refine wpS_bind (gP hya ?_)
 refine wpS_bind (xL hO hk (show 0+j<=b.size by omega) (by omega) hkb (hka _ (by simp)) (by rw [List.drop_zero];exact sb.sublist (List.take_sublist _ _)) fun e hen e1 e2=>?_)
 dsimp only
 rw [Nat.zero_add] at e2
 have m3:=(m2.sw.blkT hen fun x hx u hu=>Le.tr (yT hya m2.sa u hu) (e2 x hx)).sw
 have e1':∀ x∈rt b e,Le κ x a[y]:=fun x hx=>e1 x (Ep hx)
 by_cases hep:j-e>0
 ·rw [if_pos hep]
  by_cases hb3:e=1
  ·rw [if_pos (by simpa using hb3)]
   subst hb3
   exact wpS_pure ⟨he5,.inl ⟨_,rfl,m3.firstT hb h0⟩⟩
  rw [if_neg (by simpa using hb3)]
  by_cases hb4:e=0
  ·rw [if_pos (by simpa using hb4)]
   subst hb4
   exact wpS_pure ⟨he5,.inl ⟨_,rfl,m3.doneT2⟩⟩
  rw [if_neg (by simpa using hb4)]
  exact Kd he5 hya m3 e1' (by omega) (by omega)
 ·rw [if_neg hep]
  obtain rfl:e=j:=by omega
  exact Kd he5 hya m2 e1' (by omega) hm
theorem Nw {st:SortSt}{a b:Array Keyed}{Q:Array Keyed->SortSt->Prop}(hO:LtR prog w A E s κ kd)(hk:kindOf st=kd)(ha:0<a.size)(hb:0<b.size)(hka:∀ x∈a.toList,Hk κ x)(hkb:∀ x∈b.toList,Hk κ x)
  (sa:a.toList.Pairwise (Le κ)) (sb:b.toList.Pairwise (Le κ)) (h0:∀ y∈a.toList,Le κ b[0] y) (hl:∀ y∈b.toList,∀ x,a.toList.getLast?=some x->Le κ y x)
  (h:∀ r st',Ev st st'->Fi (Le κ) (a.toList++b.toList) r->Q r st'):wpS (model prog w) A E s (Mu a b) Q st:=by
 rw [Hx]
 refine wpS_bind (wpS_lift (wpAny_rule ⟨rfl,?_⟩))
 refine wpS_bind (gP (by omega) ?_)
 have pr:∀ (l:Array Keyed),l.toList.Pairwise (Le κ)->(rt l l.size).Pairwise (Ge κ):=fun l hl=>by
  unfold rt
  rw [List.take_of_length_le (by rw [Array.length_toList];exact Nat.le_refl _)]
  exact List.pairwise_reverse.mpr hl
 have m0:MI (Ge κ) (a.toList++b.toList) #[a[a.size-1]'(by omega)].toList (rt a (a.size-1)) (rt b b.size):=by
  have m:MI (Ge κ) (a.toList++b.toList) (#[]:Array Keyed).toList (rt a (a.size-1+1)) (rt b b.size):=by
   refine ⟨List.Pairwise.nil,fun x hx=>(nomatch hx),?_,by rw [show a.size-1+1=a.size by omega];exact pr a sa,pr b sb⟩
   rw [show a.size-1+1=a.size by omega]
   show (rt a a.size++rt b b.size).Perm _
   unfold rt
   rw [List.take_of_length_le (by rw [Array.length_toList];exact Nat.le_refl _),List.take_of_length_le (by rw [Array.length_toList];exact Nat.le_refl _)]
   exact (List.reverse_perm _).append (List.reverse_perm _)
  refine m.pushT (by omega) fun y hy=>?_
  refine hl y (List.mem_of_mem_take (List.mem_reverse.mp hy)) _ ?_
  rw [List.getLast?_eq_getElem?,Array.length_toList,Array.getElem?_toList,getElem?_pos a (a.size-1) (by omega)]
 generalize #[a[a.size-1]'(by omega)]=o0 at m0 ⊢
 have mema:∀ {i:Nat} (g:i<a.size),Hk κ a[i]:=fun g=>hka _ (by simp)
 have memb:∀ {i:Nat} (g:i<b.size),Hk κ b[i]:=fun g=>hkb _ (by simp)
 by_cases ha1:a.size-1=0
 ·rw [if_pos (by simpa using ha1)]
  refine wpS_pure (h _ st Ev.r ?_)
  rw [ha1] at m0 ⊢
  exact m0.doneT
 rw [if_neg (by simpa using ha1)]
 by_cases hb1:b.size=1
 ·rw [if_pos (by simpa using hb1)]
  refine wpS_pure (h _ st Ev.r ?_)
  rw [hb1] at m0 ⊢
  exact m0.firstT hb h0
 rw [if_neg (by simpa using hb1)]
 unfold Pj
 dsimp only
 refine wpS_bind (wpS_get ?_)
 refine wpS_bind (wpS_mono (wpS_forRange (I:=fun x c st'=>Ev st st'∧∃ o i j g,c=(none,i,j,o,g)∧GH κ a b o i j∧i+j+x<=a.size+b.size)
  (Q:=fun c st'=>Ev st st'∧∃ r,c.1=some r∧Fi (Le κ) (a.toList++b.toList) r) ?sp ?fi ⟨Ev.r,_,_,_,_,rfl,⟨m0,by omega,by omega⟩,by omega⟩) ?po)
 case po =>
  rintro ⟨o,rest⟩ st' ⟨he,r,e1,hf⟩
  dsimp only at e1 ⊢
  subst e1
  exact wpS_pure (h r st' he hf)
 case fi =>
  rintro c st' ⟨he,o,i,j,g,rfl,hg,hx⟩
  have:=hg.hi
  have:=hg.hj
  omega
 case sp =>
  intro x c st1 _ hx
  revert c
  refine ex4 fun o0 i0 j0 g0 he1 hg0 hxx=>?_
  dsimp only
  refine wpS_bind (wpS_mono (wpS_forRange (I:=fun x c st'=>Ev st st'∧∃ o i j p q,c=(none,i,j,o,p,q)∧GH κ a b o i j∧i+j+x<=i0+j0)
   (Q:=fun c st'=>Ev st st'∧((∃ r,c.1=some r∧Fi (Le κ) (a.toList++b.toList) r)∨(c.1=none∧GH κ a b c.2.2.2.1 c.2.1 c.2.2.1∧c.2.1+c.2.2.1+1<=i0+j0))) ?sp1 ?fi1 ⟨he1,o0,i0,j0,0,0,rfl,hg0,by omega⟩) ?po1)
  case fi1 =>
   rintro c st' ⟨he,o,i,j,p,q,rfl,hg,hx2⟩
   exact ⟨he,.inr ⟨rfl,hg,by dsimp only;omega⟩⟩
  case sp1 =>
   intro x1 c st2 _ hx1
   revert c
   refine ex5 fun o i j p q he2 hg hx2=>?_
   obtain ⟨i,rfl⟩:∃ i',i=i'+1:=⟨i-1,by have:=hg.hi;omega⟩
   obtain ⟨j,rfl⟩:∃ j',j=j'+1:=⟨j-1,by have:=hg.hj;omega⟩
   have hi:=hg.hi
   have hj:=hg.hj
   dsimp only
   simp only [Nat.add_sub_cancel]
   refine wpS_bind (gP (by omega) (wpS_bind (gP (by omega) ?_)))
   refine wpS_bind (Kc hO (he2.knd.trans hk) (memb (by omega)) (mema (by omega)) ?_)
   dsimp only
   cases ht:κ.blt (kf κ (b[j]'(by omega))) (kf κ (a[i]'(by omega))) with
   | true =>
    rw [if_pos rfl]
    refine wpS_bind (gP (by omega) ?_)
    have m1:=hg.mi.pushT (by omega) fun y hy=>Le.tr (yT (by omega) hg.mi.sb y hy) (KeyOrd.kle_of_klt ht)
    by_cases ha2:i=0
    ·rw [if_pos (by simpa using ha2)]
     subst ha2
     exact wpS_pure ⟨he2,.inl ⟨_,rfl,m1.doneT⟩⟩
    ·rw [if_neg (by simpa using ha2)]
     have g1:GH κ a b (o.push (a[i]'(by omega))) i (j+1):=⟨m1,by omega,by omega⟩
     split
     ·exact wpS_pure ⟨he2,.inr ⟨rfl,g1,by dsimp only;omega⟩⟩
     ·exact wpS_pure ⟨he2,_,_,_,_,_,rfl,g1,by omega⟩
   | false =>
    rw [if_neg Bool.false_ne_true]
    refine wpS_bind (gP (by omega) ?_)
    have m1:=(hg.mi.sw.pushT (by omega) fun y hy=>Le.tr (yT (by omega) hg.mi.sa y hy) (show Le κ _ _ from ht)).sw
    by_cases hb2:j=1
    ·rw [if_pos (by simpa using hb2)]
     subst hb2
     exact wpS_pure ⟨he2,.inl ⟨_,rfl,m1.firstT hb h0⟩⟩
    ·rw [if_neg (by simpa using hb2)]
     have g1:GH κ a b (o.push (b[j]'(by omega))) (i+1) j:=⟨m1,by omega,by omega⟩
     split
     ·exact wpS_pure ⟨he2,.inr ⟨rfl,g1,by dsimp only;omega⟩⟩
     ·exact wpS_pure ⟨he2,_,_,_,_,_,rfl,g1,by omega⟩
  case po1 =>
   intro c st2
   revert c
   refine or6 (fun i j o=>GH κ a b o i j) (fun i j o=>i+j+1<=i0+j0) (fun r i1 j1 o1 e he2 hf=>?_) (fun i1 j1 o1 e he2 hg1 hx2=>?_)
   ·exact wpS_pure ⟨he2,r,rfl,hf⟩
   ·dsimp only
    refine wpS_bind (wpS_lift (wpAny_rule ⟨rfl,?_⟩))
    refine wpS_bind (wpS_mono (wpS_forRange (I:=fun x c st'=>Ev st st'∧∃ o i j g p q,c=(none,i,j,o,g,p,q)∧GH κ a b o i j∧i+j<=i1+j1)
     (Q:=fun c st'=>Ev st st'∧((∃ r,c.1=some r∧Fi (Le κ) (a.toList++b.toList) r)∨(c.1=none∧GH κ a b c.2.2.2.1 c.2.1 c.2.2.1∧c.2.1+c.2.2.1<=i1+j1))) ?sp2 ?fi2 ⟨he2,o1,i1,j1,_,_,_,rfl,hg1,by omega⟩) ?po2)
    case fi2 =>
     rintro c st' ⟨he,o,i,j,g,p,q,rfl,hg,hx2⟩
     exact ⟨he,.inr ⟨rfl,hg,hx2⟩⟩
    case po2 =>
     intro c st3
     revert c
     refine or6 (fun i j o=>GH κ a b o i j) (fun i j o=>i+j<=i1+j1) (fun r i2 j2 o2 e he3 hf=>?_) (fun i2 j2 o2 e he3 hg2 hx3=>?_)
     ·exact wpS_pure ⟨he3,r,rfl,hf⟩
     ·dsimp only
      exact wpS_bind (tQ fun st4 he4=>wpS_pure ⟨he3.t he4,o2,i2,j2,_,rfl,hg2,by omega⟩)
    case sp2 =>
     intro x2 c st3 _ hx3
     revert c
     refine ex6 fun o i j g p q he3 hg hxx2=>?_
     obtain ⟨j,rfl⟩:∃ j',j=j'+1:=⟨j-1,by have:=hg.hj;omega⟩
     have hi:=hg.hi
     have hj:=hg.hj
     dsimp only
     simp only [Nat.add_sub_cancel]
     refine have key:∀ g1:Nat,wpS (model prog w) A E s ((?F:Nat->StateT SortSt Sem ?α) g1) ?QQ st3:=?key;?main
     case main =>
      by_cases hgg:g>1
      ·rw [if_pos hgg];generalize g-1=g1;exact key g1
      ·rw [if_neg hgg];generalize g=g1;exact key g1
     case key =>
      intro g1
      refine wpS_bind (tQ fun st4 he4=>?_)
      have he5:=he3.t he4
      refine wpS_bind (gP (by omega) ?_)
      refine wpS_bind (yG hO (he5.knd.trans hk) (show 0+i<=a.size by omega) (by omega) hka (memb (by omega)) (by rw [List.drop_zero];exact sa.sublist (List.take_sublist _ _)) fun y hyn k1 k2=>?_)
      dsimp only
      rw [Nat.zero_add] at k2
      have m1:=hg.mi.blkT hyn fun x hx u hu=>Le.tr (yT (by omega) hg.mi.sb u hu) (k2 x hx)
      have k1':∀ x∈rt a y,Le κ x (b[j]'(by omega)):=fun x hx=>k1 x (Ep hx)
      by_cases hkp:i-y>0
      ·rw [if_pos hkp]
       by_cases ha2:y=0
       ·rw [if_pos (by simpa using ha2)]
        subst ha2
        exact wpS_pure ⟨he5,.inl ⟨_,rfl,m1.doneT⟩⟩
       rw [if_neg (by simpa using ha2)]
       obtain ⟨y,rfl⟩:∃ y',y=y'+1:=⟨y-1,by omega⟩
       refine Ay (m':=hi2 a b (o++(a.extract (y+1) i).reverse) (y+1) j g1 (i-(y+1)) q) rfl ?_
       exact wpS_mono (Kg (m:=i1+j1) hO (he5.knd.trans hk) hb hka hkb sb h0 he5 (by omega) (by omega) m1 k1' (by omega)) fun r st' hr=>by cases r <;> exact hr
      ·rw [if_neg hkp]
       obtain rfl:y=i:=by omega
       obtain ⟨y,rfl⟩:∃ y',y=y'+1:=⟨y-1,by omega⟩
       refine Ay (m':=hi2 a b o (y+1) j g1 (y+1-(y+1)) q) rfl ?_
       exact wpS_mono (Kg (m:=i1+j1) hO (he5.knd.trans hk) hb hka hkb sb h0 he5 (by omega) (by omega) hg.mi k1' (by omega)) fun r st' hr=>by cases r <;> exact hr
end
end SR
set_option autoImplicit false
namespace SR
open PySem PyProof.Rows
theorem wE (base:Nat):∀ (l:List Keyed) (n:Nat) (a:Array Keyed) (t:Nat),base+n+l.length<=a.size ->
  ((l.zipIdx n).foldl (fun a (p,j)=>a.setIfInBounds (base+j) p) a)[t]?=if base+n<=t∧t<base+n+l.length then l[t-(base+n)]? else a[t]?
 | [],n,a,t,h=>by
  rw [if_neg (by simp only [List.length_nil];omega)]
  rfl
 | p::l,n,a,t,h=>by
  rw [List.length_cons] at h ⊢
  rw [List.zipIdx_cons,List.foldl_cons]
  have ih:=wE base l (n+1) (a.setIfInBounds (base+n) p) t (by rw [Array.size_setIfInBounds];omega)
  rw [show (List.foldl (fun a x=>a.setIfInBounds (base+x.2) x.1) (a.setIfInBounds (base+n) p) (l.zipIdx (n+1)))[t]?=_ from ih,Array.getElem?_setIfInBounds]
  by_cases h1:t=base+n
  ·subst h1
   rw [if_neg (by omega),if_pos rfl,if_pos (by omega),if_pos (by omega),Nat.sub_self]
   rfl
  ·by_cases h2:base+n<=t∧t<base+n+(l.length+1)
   ·rw [if_pos (by omega),if_pos h2,show t-(base+n)=t-(base+(n+1))+1 by omega]
    rfl
   ·rw [if_neg (by omega),if_neg (by omega),if_neg h2]
theorem Aj (base:Nat)(l:List Keyed)(a:Array Keyed)(h:base+l.length<=a.size) :
  (l.zipIdx.foldl (fun a (p,j)=>a.setIfInBounds (base+j) p) a).toList=a.toList.take base++(l++a.toList.drop (base+l.length)):=by
 apply List.ext_getElem?
 intro t
 have e:=wE base l 0 a t (by omega)
 rw [Array.getElem?_toList,show (l.zipIdx.foldl (fun a (p,j)=>a.setIfInBounds (base+j) p) a)[t]?=_ from e]
 have hl:(a.toList.take base).length=base:=by rw [List.length_take,Array.length_toList];omega
 by_cases h1:t<base
 ·rw [if_neg (by omega),List.getElem?_append_left (by omega),List.getElem?_take_of_lt h1,Array.getElem?_toList]
 ·rw [List.getElem?_append_right (by omega),hl]
  by_cases h2:t<base+l.length
  ·rw [if_pos (by omega),List.getElem?_append_left (by omega)]
   rfl
  ·rw [if_neg (by omega),List.getElem?_append_right (by omega),List.getElem?_drop,Array.getElem?_toList]
   congr 1
   omega
def sg (xs:Array Keyed)(l n:Nat):List Keyed:=(xs.toList.drop l).take n
section
variable {κ:KeyKind}{kd:SortKind}
theorem yQ {xs:Array Keyed}{i:Nat}(h:i<xs.size):KK κ xs i=kf κ xs[i]:=by
 unfold KK kf
 rw [getElem?_pos xs i h]
theorem tW {xs:Array Keyed}{l n t:Nat}(h:l+n<=xs.size)(ht:t<n):(sg xs l n)[t]?=some (xs[l+t]'(by omega)):=by
 unfold sg
 rw [List.getElem?_take_of_lt ht,List.getElem?_drop,Array.getElem?_toList,getElem?_pos xs (l+t) (by omega)]
theorem fT {xs:Array Keyed}{l n:Nat}(h:l+n<=xs.size):(sg xs l n).length=n:=by
 unfold sg
 rw [List.length_take,List.length_drop,Array.length_toList]
 omega
theorem zO {xs:Array Keyed}{l n:Nat}(h:l+n<=xs.size):Up κ xs l (l+n)↔(sg xs l n).Pairwise (Le κ):=by
 rw [List.pairwise_iff_getElem]
 constructor
 ·intro hu i j hi hj hij
  rw [fT h] at hi hj
  have e1:=tW h hi
  have e2:=tW h hj
  rw [List.getElem?_eq_getElem (by rw [fT h];omega)] at e1 e2
  rw [Option.some.inj e1,Option.some.inj e2]
  have:=hu (l+i) (l+j) (by omega) (by omega) (by omega)
  rw [yQ (by omega),yQ (by omega)] at this
  exact this
 ·intro hp i j h1 h2 h3
  rw [yQ (by omega),yQ (by omega)]
  rcases Nat.lt_or_eq_of_le h2 with g | g
  ·have:=hp (i-l) (j-l) (by rw [fT h];omega) (by rw [fT h];omega) (by omega)
   have e1:=tW h (t:=i-l) (by omega)
   have e2:=tW h (t:=j-l) (by omega)
   rw [List.getElem?_eq_getElem (by rw [fT h];omega)] at e1 e2
   rw [Option.some.inj e1,Option.some.inj e2] at this
   simp only [show l+(i-l)=i by omega,show l+(j-l)=j by omega] at this
   exact this
  ·subst g;exact KeyOrd.kle_refl _
theorem gN {xs:Array Keyed}{l m n:Nat}:sg xs l (m+n)=sg xs l m++sg xs (l+m) n:=by
 unfold sg
 rw [List.take_add,List.drop_drop]
theorem Fs {xs:Array Keyed}{l n:Nat}:(xs.extract l (l+n)).toList=sg xs l n:=zU xs l n
theorem Mw {xs ys:Array Keyed}{sa k nx ny nr:Nat}{M:List Keyed}(hsz:sa+k+nx+ny+nr<=xs.size)(hy:ys.toList=xs.toList.take (sa+k)++(M++xs.toList.drop (sa+k+nx+ny)))
  (hM:M.Perm (sg xs (sa+k) nx++sg xs (sa+k+nx) ny)) (hMs:M.Pairwise (Le κ)) (hA:(sg xs sa (k+nx)).Pairwise (Le κ)) (hB:(sg xs (sa+k+nx) (ny+nr)).Pairwise (Le κ))
  (h1:∀ x∈sg xs sa k,∀ y∈sg xs (sa+k+nx) ny,Le κ x y) (h1b:∀ x∈sg xs sa k,∀ y∈sg xs (sa+k+nx+ny) nr,Le κ x y) (h2:∀ x∈sg xs (sa+k) nx,∀ y∈sg xs (sa+k+nx+ny) nr,Le κ x y) :
  ys.Perm xs∧Up κ ys sa (sa+(k+nx+ny+nr))∧∀ t,t<sa∨sa+k+nx+ny+nr<=t->ys[t]?=xs[t]?:=by
 have hMl:M.length=nx+ny:=by
  rw [hM.length_eq,List.length_append,fT (by omega),fT (by omega)]
 have ex:xs.toList=xs.toList.take (sa+k)++((sg xs (sa+k) nx++sg xs (sa+k+nx) ny)++xs.toList.drop (sa+k+nx+ny)):=by
  have e1:xs.toList.drop (sa+k)=sg xs (sa+k) (nx+ny)++xs.toList.drop (sa+k+(nx+ny)):=uI xs (sa+k) (nx+ny)
  rw [<- gN,show sa+k+nx+ny=sa+k+(nx+ny) by omega,<- e1,List.take_append_drop]
 have hper:ys.Perm xs:=by
  rw [Array.perm_iff_toList_perm,hy]
  conv=>rhs;rw [ex]
  exact (hM.append_right _).append_left _
 have hys:ys.size=xs.size:=hper.size_eq
 have hlt:(xs.toList.take (sa+k)).length=sa+k:=by rw [List.length_take,Array.length_toList];omega
 have low:∀ t,t<sa+k->ys[t]?=xs[t]?:=fun t ht=>by
  rw [<- Array.getElem?_toList,hy,List.getElem?_append_left (by omega),List.getElem?_take_of_lt ht,Array.getElem?_toList]
 have high:∀ t,sa+k+nx+ny<=t->ys[t]?=xs[t]?:=fun t ht=>by
  rw [<- Array.getElem?_toList,hy,List.getElem?_append_right (by omega),hlt,List.getElem?_append_right (by omega),hMl,List.getElem?_drop,Array.getElem?_toList]
  congr 1
  omega
 refine ⟨hper,?_,fun t ht=>?_⟩
 ·rw [zO (by omega)]
  have e2:sg ys sa (k+nx+ny+nr)=sg xs sa k++(M++sg xs (sa+k+nx+ny) nr):=by
   apply List.ext_getElem?
   intro t
   have hk1:(sg xs sa k).length=k:=fT (by omega)
   by_cases hT:t<k+nx+ny+nr
   ·have eL:(sg ys sa (k+nx+ny+nr))[t]?=ys[sa+t]?:=by
     unfold sg
     rw [List.getElem?_take_of_lt hT,List.getElem?_drop,Array.getElem?_toList]
    rw [eL]
    by_cases t1:t<k
    ·rw [low _ (by omega),List.getElem?_append_left (by omega)]
     unfold sg
     rw [List.getElem?_take_of_lt t1,List.getElem?_drop,Array.getElem?_toList]
    ·rw [List.getElem?_append_right (by omega),hk1]
     by_cases t2:t<k+nx+ny
     ·rw [List.getElem?_append_left (by omega),<- Array.getElem?_toList,hy,List.getElem?_append_right (by omega),hlt,List.getElem?_append_left (by omega)]
      congr 1
      omega
     ·rw [high _ (by omega),List.getElem?_append_right (by omega),hMl]
      unfold sg
      rw [List.getElem?_take_of_lt (by omega),List.getElem?_drop,Array.getElem?_toList]
      congr 1
      omega
   ·rw [List.getElem?_eq_none (by rw [fT (by omega)];omega),List.getElem?_eq_none]
    rw [List.length_append,List.length_append,hk1,hMl,fT (by omega)]
    omega
  rw [e2]
  rw [gN] at hA hB
  obtain ⟨a1,a2,a3⟩:=List.pairwise_append.mp hA
  obtain ⟨b1,b2,b3⟩:=List.pairwise_append.mp hB
  refine List.pairwise_append.mpr ⟨a1,List.pairwise_append.mpr ⟨hMs,b2,fun x hx y hyy=>?_⟩,fun x hx y hyy=>?_⟩
  ·rcases List.mem_append.mp (hM.mem_iff.mp hx) with g | g
   ·exact h2 x g y hyy
   ·exact b3 x g y hyy
  ·rcases List.mem_append.mp hyy with g | g
   ·rcases List.mem_append.mp (hM.mem_iff.mp g) with g | g
    ·exact a3 x hx y g
    ·exact h1 x hx y g
   ·exact h1b x hx y g
 ·rcases ht with g | g
  ·exact low t (by omega)
  ·exact high t (by omega)
end
end SR
set_option autoImplicit false
namespace SR
open PySem PyProof.Rows
theorem Ln (i:Nat):mergeAt' i=(do
 let s <- get
 let (some (sa,na,pw),some (sb,nb,_)):=((pendingOf s)[i]?,(pendingOf s)[i+1]?) | unsupported "internal:list.sort.pending"
 set (setPending s (((pendingOf s).setIfInBounds i (sa,na+nb,pw)).eraseIdxIfInBounds (i+1)))
 let some k <- nK false (<- elem' (arrOf s) sb) (arrOf s) sa na 0 | return false
 let (sa,na):=(sa+k,na-k)
 if na==0 then return true
 let some nb <- nK true (<- elem' (arrOf s) (sa+na-1)) (arrOf s) sb nb (nb-1) | return false
 if nb==0 then return true
 let x:=(arrOf s).extract sa sb
 let y:=(arrOf s).extract sb (sb+nb)
 let m <- if na<=nb then Ko x y else Mu x y
 modify fun s=>setArr s (m.toList.zipIdx.foldl (fun a (p,j)=>a.setIfInBounds (sa+j) p) (arrOf s))
 return (failedOf (<- get)).isNone):=rfl
section
variable {prog:Program}{w:World}{A:Around}{E:Value->Shared->Prop}{s:Shared}{z:Array Keyed}{κ:KeyKind}{kd:SortKind}
theorem On {st st2:SortSt}{Q:PUnit->SortSt->Prop}(h:Q ⟨⟩ st2):wpS (model prog w) A E s (set st2:StateT SortSt Sem PUnit) Q st:=by
 unfold wpS;rw [StateT.run_set];exact wpAny_pure ⟨rfl,h⟩
theorem No {st:SortSt}{i sa na pw sb nb pv:Nat}{Q:Bool->SortSt->Prop}(hO:LtR prog w A E s κ kd)(hz:KeysOf κ z)(hB:SB kd z st)(e1:(pendingOf st)[i]?=some (sa,na,pw))(e2:(pendingOf st)[i+1]?=some (sb,nb,pv))
  (hab:sb=sa+na) (hn:sb+nb<=z.size) (hna:1<=na) (hnb:1<=nb) (ua:Up κ (arrOf st) sa (sa+na)) (ub:Up κ (arrOf st) sb (sb+nb))
  (h:∀ st',SB kd z st'->pendingOf st'=((pendingOf st).setIfInBounds i (sa,na+nb,pw)).eraseIdxIfInBounds (i+1)->Up κ (arrOf st') sa (sa+(na+nb))->(∀ t,t<sa∨sa+(na+nb)<=t->(arrOf st')[t]?=(arrOf st)[t]?)->Q true st') :
  wpS (model prog w) A E s (mergeAt' i) Q st:=by
 rw [Ln]
 refine wpS_bind (wpS_get ?_)
 rw [e1,e2]
 dsimp only
 have hsz:(arrOf st).size=z.size:=hB.sz
 have hK:∀ x∈(arrOf st).toList,Hk κ x:=fun x hx=>hz x ((Array.perm_iff_toList_perm.mp hB.prm).mem_iff.mp hx)
 have hkn:kindOf st=kd:=hB.knd
 have hfl:failedOf st=none:=hB.ffl
 generalize hP:((pendingOf st).setIfInBounds i (sa,na+nb,pw)).eraseIdxIfInBounds (i+1)=P at h ⊢
 refine wpS_bind (On ?_)
 subst hab
 have pa:=(zO (κ:=κ) (xs:=arrOf st) (l:=sa) (n:=na) (by omega)).mp ua
 have pb:=(zO (κ:=κ) (xs:=arrOf st) (l:=sa+na) (n:=nb) (by omega)).mp ub
 have hSB:∀ ys:Array Keyed,ys.Perm (arrOf st)->∀ st2:SortSt,kindOf st2=kd->failedOf st2=none->arrOf st2=ys->SB kd z st2:=fun ys hp st2 g1 g2 g3=>⟨by rw [g3];exact hp.trans hB.prm,g1,g2⟩
 have hplain:(∀ x∈sg (arrOf st) sa na,∀ y∈sg (arrOf st) (sa+na) nb,Le κ x y)->Q true (setPending st P):=fun hle=>by
  refine h _ (hSB _ (Array.Perm.refl _) _ hkn hfl rfl) rfl ?_ (fun t _=>rfl)
  show Up κ (arrOf st) sa (sa+(na+nb))
  rw [zO (by omega),gN]
  exact List.pairwise_append.mpr ⟨pa,pb,hle⟩
 generalize hX:arrOf st=xs at hsz hK pa pb hSB hplain h ⊢
 have hbf:∀ y∈sg xs (sa+na) nb,Le κ (xs[sa+na]'(by omega)) y:=fun y hy=>by
  have e:=gN (xs:=xs) (l:=sa+na) (m:=1) (n:=nb-1)
  rw [Nat.add_sub_cancel' hnb] at e
  rw [e] at pb hy
  have e3:sg xs (sa+na) 1=[xs[sa+na]'(by omega)]:=by
   unfold sg
   rw [gZ (by omega)]
   rfl
  rw [e3,List.singleton_append] at pb hy
  exact zH pb y hy
 have hal:∀ y∈sg xs sa na,Le κ y (xs[sa+na-1]'(by omega)):=fun y hy=>by
  have e:=gN (xs:=xs) (l:=sa) (m:=na-1) (n:=1)
  rw [Nat.sub_add_cancel hna] at e
  rw [e] at pa hy
  have e3:sg xs (sa+(na-1)) 1=[xs[sa+na-1]'(by omega)]:=by
   unfold sg
   rw [gZ (by omega)]
   simp only [(Nat.add_sub_assoc hna sa).symm]
   rfl
  rw [e3] at pa hy
  rcases List.mem_append.mp hy with g | g
  ·exact (List.pairwise_append.mp pa).2.2 y g _ (List.mem_singleton.mpr rfl)
  ·rw [List.mem_singleton.mp g];exact KeyOrd.kle_refl _
 refine wpS_bind (gP (by omega) ?_)
 refine wpS_bind (yG hO hkn (show sa+na<=xs.size by omega) (by omega) hK (hK _ (by simp)) pa fun k hkn2 k1 k2=>?_)
 dsimp only
 by_cases hk0:na-k=0
 ·rw [if_pos (by simpa using hk0)]
  obtain rfl:k=na:=by omega
  exact wpS_pure (hplain fun x hx y hy=>Le.tr (k1 x hx) (hbf y hy))
 rw [if_neg (by simpa using hk0)]
 have q1:k+(na-k)=na:=Nat.add_sub_cancel' hkn2
 have q2:sa+k+(na-k)=sa+na:=by rw [Nat.add_assoc,q1]
 have hix:sa+k+(na-k)-1=sa+na-1:=by rw [q2]
 rw [hix]
 refine wpS_bind (gP (by omega) ?_)
 refine wpS_bind (xL hO hkn (show sa+na+nb<=xs.size by omega) (by omega) hK (hK _ (by simp)) pb fun e hen f1 f2=>?_)
 dsimp only
 by_cases he0:e=0
 ·rw [if_pos (by simpa using he0)]
  subst he0
  exact wpS_pure (hplain fun x hx y hy=>Le.tr (hal x hx) (f2 y hy))
 rw [if_neg (by simpa using he0)]
 have q3:e+(nb-e)=nb:=Nat.add_sub_cancel' hen
 have exX:(xs.extract (sa+k) (sa+na)).toList=sg xs (sa+k) (na-k):=by
  rw [<- q2];exact Fs
 have exY:(xs.extract (sa+na) (sa+na+e)).toList=sg xs (sa+na) e:=Fs
 have sX:(xs.extract (sa+k) (sa+na)).size=na-k:=by rw [Array.size_extract];omega
 have sY:(xs.extract (sa+na) (sa+na+e)).size=e:=by rw [Array.size_extract];omega
 have hYsub:∀ y∈sg xs (sa+na) e,y∈sg xs (sa+na) nb:=fun y hy=>by
  have e4:=gN (xs:=xs) (l:=sa+na) (m:=e) (n:=nb-e)
  rw [q3] at e4
  rw [e4]
  exact List.mem_append_left _ hy
 have hXsub:∀ x∈sg xs (sa+k) (na-k),x∈sg xs sa na:=fun y hy=>by
  have e4:=gN (xs:=xs) (l:=sa) (m:=k) (n:=na-k)
  rw [q1] at e4
  rw [e4]
  exact List.mem_append_right _ hy
 have hA1:∀ x∈sg xs sa k,x∈sg xs sa na:=fun y hy=>by
  have e4:=gN (xs:=xs) (l:=sa) (m:=k) (n:=na-k)
  rw [q1] at e4
  rw [e4]
  exact List.mem_append_left _ hy
 have kX:∀ x∈(xs.extract (sa+k) (sa+na)).toList,Hk κ x:=fun x hx=>by
  rw [exX] at hx
  exact hK x (List.mem_of_mem_drop (List.mem_of_mem_take hx))
 have kY:∀ x∈(xs.extract (sa+na) (sa+na+e)).toList,Hk κ x:=fun x hx=>by
  rw [exY] at hx
  exact hK x (List.mem_of_mem_drop (List.mem_of_mem_take hx))
 have pX:(xs.extract (sa+k) (sa+na)).toList.Pairwise (Le κ):=by
  rw [exX]
  have e4:=gN (xs:=xs) (l:=sa) (m:=k) (n:=na-k)
  rw [q1] at e4
  rw [e4] at pa
  exact (List.pairwise_append.mp pa).2.1
 have pY:(xs.extract (sa+na) (sa+na+e)).toList.Pairwise (Le κ):=by
  rw [exY]
  have e4:=gN (xs:=xs) (l:=sa+na) (m:=e) (n:=nb-e)
  rw [q3] at e4
  rw [e4] at pb
  exact (List.pairwise_append.mp pb).1
 have h00:∀ y∈(xs.extract (sa+k) (sa+na)).toList,Le κ ((xs.extract (sa+na) (sa+na+e))[0]'(by omega)) y:=fun y hy=>by
  rw [exX] at hy
  rw [Array.getElem_extract]
  exact k2 y hy
 have hll:∀ y∈(xs.extract (sa+na) (sa+na+e)).toList,∀ x,(xs.extract (sa+k) (sa+na)).toList.getLast?=some x->Le κ y x:=fun y hy x hx=>by
  rw [exY] at hy
  rw [List.getLast?_eq_getElem?,Array.length_toList,sX,Array.getElem?_toList,getElem?_pos _ _ (by omega),Array.getElem_extract] at hx
  simp only [show sa+k+(na-k-1)=sa+na-1 by omega] at hx
  rw [<- Option.some.inj hx]
  exact f1 y hy
 have fin:∀ (r:Array Keyed) (st2:SortSt),Ev (setPending st P) st2->Fi (Le κ) ((xs.extract (sa+k) (sa+na)).toList++(xs.extract (sa+na) (sa+na+e)).toList) r ->
   Q true (setArr st2 (List.foldl (fun a x=>a.setIfInBounds (sa+k+x.snd) x.fst) (arrOf st2) r.toList.zipIdx)):=fun r st2 hev hfi=>by
  rw [exX,exY] at hfi
  have harr:arrOf st2=xs:=hev.arr.trans hX
  have hrl:r.toList.length=na-k+e:=by
   rw [hfi.1.length_eq,List.length_append,fT (by omega),fT (by omega)]
  have e5:=Aj (sa+k) r.toList (arrOf st2) (by rw [harr,hrl];omega)
  rw [harr,hrl] at e5
  have hm:=Mw (κ:=κ) (xs:=xs) (ys:=List.foldl (fun a x=>a.setIfInBounds (sa+k+x.snd) x.fst) (arrOf st2) r.toList.zipIdx) (sa:=sa) (k:=k) (nx:=na-k) (ny:=e) (nr:=nb-e) (M:=r.toList) (by omega)
   (by rw [harr,Nat.add_assoc (sa+k)];exact e5)
   (by rw [q2];exact hfi.1) hfi.2 (by rw [q1];exact pa) (by rw [q2,q3];exact pb)
   (by rw [q2];exact fun x hx y hy=>Le.tr (k1 x hx) (hbf y (hYsub y hy)))
   (by rw [q2];exact fun x hx y hy=>Le.tr (hal x (hA1 x hx)) (f2 y hy))
   (by rw [q2];exact fun x hx y hy=>Le.tr (hal x (hXsub x hx)) (f2 y hy))
  obtain ⟨m1,m2,m3⟩:=hm
  rw [q1,Nat.add_assoc,q3] at m2
  refine h _ (hSB _ m1 _ (hev.knd.trans hkn) (hev.ffl.trans hfl) rfl) hev.pen m2 fun t ht=>m3 t (by omega)
 by_cases hcmp:na-k<=e
 ·rw [if_pos hcmp]
  refine wpS_bind (Oy hO hkn (by omega) (by omega) kX kY pX pY h00 hll fun r st2 hev hfi=>?_)
  refine wpS_bind (wpS_modify (wpS_bind (wpS_get ?_)))
  have hf2:failedOf st2=none:=hev.ffl.trans hfl
  rw [hf2]
  exact wpS_pure (fin r st2 hev hfi)
 ·rw [if_neg hcmp]
  refine wpS_bind (Nw hO hkn (by omega) (by omega) kX kY pX pY h00 hll fun r st2 hev hfi=>?_)
  refine wpS_bind (wpS_modify (wpS_bind (wpS_get ?_)))
  have hf2:failedOf st2=none:=hev.ffl.trans hfl
  rw [hf2]
  exact wpS_pure (fin r st2 hev hfi)
end
end SR
set_option autoImplicit false
namespace SR
open PySem PyProof.Rows
def Stk (κ:KeyKind)(xs:Array Keyed):Nat->List (Nat×Nat×Nat)->Nat->Prop
 | s,[],e=>s=e
 | s,t::r,e=>t.1=s∧1<=t.2.1∧Up κ xs s (s+t.2.1)∧Stk κ xs (s+t.2.1) r e
section
variable {κ:KeyKind}{kd:SortKind}
theorem Stk.le {xs:Array Keyed}:∀ {l:List (Nat×Nat×Nat)} {s e:Nat},Stk κ xs s l e->s+l.length<=e
 | [],s,e,h=>by have:s=e:=h;rw [this];exact Nat.le_refl _
 | t::r,s,e,h=>by
  have:=Stk.le h.2.2.2
  have:=h.2.1
  rw [List.length_cons]
  omega
theorem tG {xs ys:Array Keyed}{l r:Nat}(h:Up κ xs l r)(he:∀ k,l<=k->k<r->ys[k]?=xs[k]?):Up κ ys l r:=fun i j h1 h2 h3=>by
 rw [KK_congr (he i h1 (by omega)),KK_congr (he j (by omega) h3)]
 exact h i j h1 h2 h3
theorem Stk.keep {xs ys:Array Keyed}:∀ {l:List (Nat×Nat×Nat)} {s e:Nat},Stk κ xs s l e->(∀ k,s<=k->k<e->ys[k]?=xs[k]?)->Stk κ ys s l e
 | [],s,e,h,_=>h
 | t::r,s,e,h,he=>by
  have h2:=Stk.le h.2.2.2
  have h3:=h.2.1
  exact ⟨h.1,h.2.1,tG h.2.2.1 fun k k1 k2=>he k k1 (by omega),h.2.2.2.keep fun k k1 k2=>he k (by omega) k2⟩
theorem Stk.snoc {xs:Array Keyed}{n p:Nat}(hn:1<=n):∀ {l:List (Nat×Nat×Nat)} {s e:Nat},Stk κ xs s l e->Up κ xs e (e+n)->Stk κ xs s (l++[(e,n,p)]) (e+n)
 | [],s,e,h,hu=>by
  have:s=e:=h
  subst this
  exact ⟨rfl,hn,hu,rfl⟩
 | t::r,s,e,h,hu=>⟨h.1,h.2.1,h.2.2.1,h.2.2.2.snoc hn hu⟩
theorem Stk.like {xs:Array Keyed}:∀ {l l':List (Nat×Nat×Nat)} {s e:Nat},Stk κ xs s l e->l'.map (fun t=>(t.1,t.2.1))=l.map (fun t=>(t.1,t.2.1))->Stk κ xs s l' e
 | [],[],s,e,h,_=>h
 | [],_::_,s,e,h,he=>by simp at he
 | _::_,[],s,e,h,he=>by simp at he
 | t::r,t'::r',s,e,h,he=>by
  rw [List.map_cons,List.map_cons] at he
  obtain ⟨e1,e2⟩:=List.cons.inj he
  have e3:t'.1=t.1:=(Prod.mk.inj e1).1
  have e4:t'.2.1=t.2.1:=(Prod.mk.inj e1).2
  refine ⟨e3.trans h.1,by rw [e4];exact h.2.1,by rw [e4];exact h.2.2.1,?_⟩
  rw [e4]
  exact h.2.2.2.like e2
theorem Stk.two {xs:Array Keyed}{a b:Nat×Nat×Nat}{v:List (Nat×Nat×Nat)}:∀ {u:List (Nat×Nat×Nat)} {s e:Nat},Stk κ xs s (u++a::b::v) e->s<=a.1∧b.1=a.1+a.2.1∧b.1+b.2.1<=e∧1<=a.2.1∧1<=b.2.1∧Up κ xs a.1 (a.1+a.2.1)∧Up κ xs b.1 (b.1+b.2.1)
 | [],s,e,h=>by
  obtain ⟨rfl,h1,h2,h3,h4,h5,h6⟩:=h
  have:=Stk.le h6
  rw [<- h3] at h5
  exact ⟨Nat.le_refl _,h3,by omega,h1,h4,h2,h5⟩
 | t::u,s,e,h=>by
  have h2:=Stk.two (u:=u) h.2.2.2
  have:=h.2.1
  exact ⟨by omega,h2.2⟩
theorem Stk.join {xs ys:Array Keyed}{a b:Nat×Nat×Nat}{p:Nat}{v:List (Nat×Nat×Nat)}:∀ {u:List (Nat×Nat×Nat)} {s e:Nat},Stk κ xs s (u++a::b::v) e->Up κ ys a.1 (a.1+(a.2.1+b.2.1))->(∀ t,t<a.1∨a.1+(a.2.1+b.2.1)<=t->ys[t]?=xs[t]?) ->
  Stk κ ys s (u++(a.1,a.2.1+b.2.1,p)::v) e
 | [],s,e,h,hu,hk=>by
  obtain ⟨rfl,h1,h2,h3,h4,h5,h6⟩:=h
  refine ⟨rfl,by dsimp only;omega,hu,?_⟩
  dsimp only
  rw [show a.1+(a.2.1+b.2.1)=a.1+a.2.1+b.2.1 by omega]
  exact h6.keep fun k k1 k2=>hk k (.inr (by omega))
 | t::u,s,e,h,hu,hk=>by
  have h2:=Stk.two (u:=u) h.2.2.2
  exact ⟨h.1,h.2.1,tG h.2.2.1 fun k k1 k2=>hk k (.inl (by omega)),Stk.join (u:=u) h.2.2.2 hu hk⟩
end
section
variable {prog:Program}{w:World}{A:Around}{E:Value->Shared->Prop}{s:Shared}{z:Array Keyed}{κ:KeyKind}{kd:SortKind}
theorem Ew {st:SortSt}{i lo:Nat}{Q:Bool->SortSt->Prop}(hO:LtR prog w A E s κ kd)(hz:KeysOf κ z)(hB:SB kd z st)(hlo:lo<=z.size)(hS:Stk κ (arrOf st) 0 (pendingOf st).toList lo)(hi:i+1<(pendingOf st).size)
  (h:∀ st',SB kd z st'->Stk κ (arrOf st') 0 (pendingOf st').toList lo->(pendingOf st').size+1=(pendingOf st).size->(∀ t,lo<=t->(arrOf st')[t]?=(arrOf st)[t]?)->Q true st'):wpS (model prog w) A E s (mergeAt' i) Q st:=by
 have hsp:(pendingOf st).toList=(pendingOf st).toList.take i++(pendingOf st)[i]::(pendingOf st)[i+1]::(pendingOf st).toList.drop (i+2):=by
  conv=>lhs;rw [<- List.take_append_drop i (pendingOf st).toList]
  congr 1
  rw [List.drop_eq_getElem_cons (by rw [Array.length_toList];omega),List.drop_eq_getElem_cons (by rw [Array.length_toList];omega)]
  simp
 have hS2:=hS
 rw [hsp] at hS2
 obtain ⟨_,g2,g3,g4,g5,g6,g7⟩:=hS2.two
 refine No (κ:=κ) (i:=i) (sa:=(pendingOf st)[i].1) (na:=(pendingOf st)[i].2.1) (pw:=(pendingOf st)[i].2.2) (sb:=(pendingOf st)[i+1].1) (nb:=(pendingOf st)[i+1].2.1) (pv:=(pendingOf st)[i+1].2.2) hO hz hB (getElem?_pos _ i (by omega)) (getElem?_pos _ (i+1) hi) g2 (by omega) g4 g5 g6 g7 fun st' b1 b2 b3 b4=>?_
 have hj:=hS2.join (p:=(pendingOf st)[i].2.2) b3 b4
 have hl:(pendingOf st').toList=(pendingOf st).toList.take i++((pendingOf st)[i].1,(pendingOf st)[i].2.1+(pendingOf st)[i+1].2.1,(pendingOf st)[i].2.2)::(pendingOf st).toList.drop (i+2):=by
  rw [b2,Array.eraseIdxIfInBounds_eq,dif_pos (by rw [Array.size_setIfInBounds];omega),Array.toList_eraseIdx,Array.toList_setIfInBounds]
  apply List.ext_getElem?
  intro t
  have hlt:((pendingOf st).toList.take i).length=i:=by rw [List.length_take,Array.length_toList];omega
  rw [List.getElem?_eraseIdx]
  by_cases t1:t<i
  ·rw [if_pos (by omega),List.getElem?_append_left (by omega),List.getElem?_take_of_lt t1,List.getElem?_set_ne (by omega)]
  ·rw [List.getElem?_append_right (by omega),hlt]
   by_cases t2:t=i
   ·subst t2
    rw [if_pos (by omega),Nat.sub_self,List.getElem?_set_self (by rw [Array.length_toList];omega)]
    rfl
   ·rw [if_neg (by omega),show t-i=t-i-1+1 by omega,List.getElem?_cons_succ,List.getElem?_drop,List.getElem?_set_ne (by omega)]
    congr 1
    omega
 refine h st' b1 (by rw [hl];exact hj) ?_ fun t ht=>b4 t (.inr (by omega))
 have:=congrArg List.length hl
 rw [Array.length_toList,List.length_append,List.length_cons,List.length_take,List.length_drop,Array.length_toList] at this
 omega
theorem Da (b:Bool)(n:Nat)(hn:1<n):(if b=true then n-2-1 else n-2)+1<n:=by
 cases b
 ·rw [if_neg Bool.false_ne_true];omega
 ·rw [if_pos rfl];omega
theorem Dc (p:Array (Nat×Nat×Nat))(i v:Nat):((p.modify i fun x=>(x.1,x.2.1,v)).toList).map (fun t=>(t.1,t.2.1))=p.toList.map (fun t=>(t.1,t.2.1)):=by
 apply List.ext_getElem?
 intro t
 rw [List.getElem?_map,List.getElem?_map,Array.getElem?_toList,Array.getElem?_toList,Array.getElem?_modify]
 split
 ·cases p[t]? <;> rfl
 ·rfl
theorem Mr {st:SortSt}{Q:Unit->SortSt->Prop}(hO:LtR prog w A E s κ kd)(hz:KeysOf κ z)(hB:SB kd z st)(hp:pendingOf st = #[])(h2:2<=z.size)
  (h:∀ st',SB kd z st'->Up κ (arrOf st') 0 z.size->Q () st'):wpS (model prog w) A E s sortRuns' Q st:=by
 rw [sortRuns'_eq]
 refine wpS_bind (wpS_get ?_)
 dsimp only
 simp only [hB.sz]
 generalize minRun' z.size z.size 0=mr
 refine wpS_bind (wpS_mono (wpS_forRange
  (I:=fun x c st'=>∃ lo,c=(none,lo)∧SB kd z st'∧x<=lo∧lo<=z.size∧Stk κ (arrOf st') 0 (pendingOf st').toList lo)
  (Q:=fun c st'=>c=(none,z.size)∧SB kd z st'∧Stk κ (arrOf st') 0 (pendingOf st').toList z.size) ?sp ?fi ⟨0,rfl,hB,by omega,by omega,by rw [hp];rfl⟩) ?po)
 case fi =>
  rintro c st' ⟨lo,rfl,hB',g1,g2,g3⟩
  obtain rfl:lo=z.size:=by omega
  exact ⟨rfl,hB',g3⟩
 case sp =>
  rintro x c st1 _ hx ⟨lo,rfl,hB1,g1,g2,g3⟩
  dsimp only
  by_cases hge:lo≥z.size
  ·rw [if_pos hge]
   obtain rfl:lo=z.size:=by omega
   exact wpS_pure ⟨rfl,hB1,g3⟩
  rw [if_neg hge]
  refine wpS_bind (Oh hO hz (by omega) (by omega) hB1 fun m st2 hB2 hk2 hm1 hm2 hu2=>?_)
  dsimp only
  by_cases hlt:m<mr
  case' pos =>
   rw [if_pos hlt]
   refine wpS_bind (wpS_lift (wpAny_rule ⟨rfl,?_⟩))
   refine wpS_bind (Pe hO hz (by omega) hm1 (by omega) hB2 hu2 fun st3 hB3 hk3 hu3=>?_)
   simp only [Bool.not_true,Bool.false_eq_true,if_false]
   have hn1:1<=min (z.size-lo) mr:=by omega
   have hn2:lo+min (z.size-lo) mr<=z.size:=by omega
   have hk4:=hk2.tr hk3
   generalize min (z.size-lo) mr=n at hn1 hn2 hu3 ⊢
  case' neg =>
   rw [if_neg hlt]
   have hB3:=hB2
   have hk4:=hk2
   have hu3:=hu2
   have hn1:=hm1
   have hn2:lo+m<=z.size:=by omega
   obtain ⟨st3,e3⟩:∃ st3,st3=st2:=⟨_,rfl⟩
   rw [<- e3] at hB3 hk4 hu3 ⊢
   generalize m=n at hn1 hn2 hu3 ⊢
  all_goals
   have hS3:Stk κ (arrOf st3) 0 (pendingOf st3).toList lo:=by
    rw [hk4.pen]
    exact g3.keep fun k _ k2=>hk4.low k k2
   refine wpS_bind (wpS_get ?_)
   cases hbk:(pendingOf st3).back? with
   | none =>
    dsimp only
    refine wpS_bind (wpS_modify (wpS_pure ⟨lo+n,rfl,⟨hB3.prm,hB3.knd,hB3.ffl⟩,by omega,hn2,?_⟩))
    show Stk κ (arrOf st3) 0 ((pendingOf st3).push (lo,n,0)).toList (lo+n)
    rw [Array.toList_push]
    exact hS3.snoc hn1 hu3
   | some t =>
    obtain ⟨s1,n1,p1⟩:=t
    dsimp only
    refine wpS_bind (wpS_mono (wpS_forRange (I:=fun _ c st'=>c=(none,())∧SB kd z st'∧Stk κ (arrOf st') 0 (pendingOf st').toList lo∧Up κ (arrOf st') lo (lo+n))
     (Q:=fun c st'=>c=(none,())∧SB kd z st'∧Stk κ (arrOf st') 0 (pendingOf st').toList lo∧Up κ (arrOf st') lo (lo+n)) ?isp (fun _ _ hh=>hh) ⟨rfl,hB3,hS3,hu3⟩) ?ipo)
    case isp =>
     rintro x1 c st4 _ _ ⟨rfl,hB4,hS4,hu4⟩
     refine wpS_bind (wpS_get ?_)
     by_cases hs1:(pendingOf st4).size>1
     ·rw [if_pos hs1,getElem?_pos (pendingOf st4) ((pendingOf st4).size-2) (by omega)]
      generalize (pendingOf st4)[(pendingOf st4).size-2]'(by omega)=t
      obtain ⟨t1,t2,ol⟩:=t
      dsimp only
      split
      ·exact wpS_pure ⟨rfl,hB4,hS4,hu4⟩
      ·refine wpS_bind (Ew hO hz hB4 g2 hS4 (by omega) fun st5 b1 b2 b3 b4=>?_)
       simp only [Bool.not_true,Bool.false_eq_true,if_false]
       exact wpS_pure ⟨rfl,b1,b2,tG hu4 fun k k1 _=>b4 k k1⟩
     ·rw [if_neg hs1]
      exact wpS_pure ⟨rfl,hB4,hS4,hu4⟩
    case ipo =>
     rintro c st4 ⟨rfl,hB4,hS4,hu4⟩
     dsimp only
     refine wpS_bind (wpS_modify (wpS_bind (wpS_modify (wpS_pure ⟨lo+n,rfl,⟨hB4.prm,hB4.knd,hB4.ffl⟩,by omega,hn2,?_⟩))))
     show Stk κ (arrOf st4) 0 (((pendingOf st4).modify _ _).push (lo,n,0)).toList (lo+n)
     rw [Array.toList_push]
     exact (hS4.like (Dc _ _ _)).snoc hn1 hu4
 case po =>
  rintro c st1 ⟨rfl,hB1,hS1⟩
  dsimp only
  have hl1:=Stk.le hS1
  rw [Array.length_toList] at hl1
  refine wpS_bind (wpS_mono (wpS_forRange (I:=fun x c st'=>c=(none,())∧SB kd z st'∧Stk κ (arrOf st') 0 (pendingOf st').toList z.size∧(pendingOf st').size<=max 1 (z.size-x))
   (Q:=fun c st'=>c=(none,())∧SB kd z st'∧Stk κ (arrOf st') 0 (pendingOf st').toList z.size∧(pendingOf st').size<=1) ?fsp ?ffi ⟨rfl,hB1,hS1,by omega⟩) ?fpo)
  case ffi =>
   rintro c st2 ⟨rfl,hB2,hS2,hl2⟩
   exact ⟨rfl,hB2,hS2,by omega⟩
  case fsp =>
   rintro x c st2 _ hx ⟨rfl,hB2,hS2,hl2⟩
   refine wpS_bind (wpS_get ?_)
   by_cases hs1:(pendingOf st2).size<=1
   ·rw [if_pos hs1]
    exact wpS_pure ⟨rfl,hB2,hS2,hs1⟩
   rw [if_neg hs1]
   refine wpS_bind (Ew hO hz hB2 (Nat.le_refl _) hS2 ?_ fun st5 b1 b2 b3 b4=>?_)
   ·exact Da _ _ (by omega)
   ·simp only [Bool.not_true,Bool.false_eq_true,if_false]
    exact wpS_pure ⟨rfl,b1,b2,by omega⟩
  case fpo =>
   rintro c st2 ⟨rfl,hB2,hS2,hl2⟩
   dsimp only
   refine wpS_pure (h st2 hB2 ?_)
   rw [<- Array.length_toList] at hl2
   cases hq:(pendingOf st2).toList with
   | nil =>
    rw [hq] at hS2
    have:0=z.size:=hS2
    omega
   | cons t r =>
    rw [hq] at hS2 hl2
    rw [List.length_cons] at hl2
    obtain rfl:r=[]:=List.length_eq_zero_iff.mp (by omega)
    obtain ⟨_,_,hu,he⟩:=hS2
    have e5:0+t.2.1=z.size:=he
    rw [e5] at hu
    exact hu
end
end SR
set_option autoImplicit false
namespace SR
open PySem PyProof.Rows PySem.Spec
section
variable {prog:Program}{w:World}{A:Around}{E:Value->Shared->Prop}{s:Shared}
theorem Lg {α:Type}:∀ {l:List α},2<=l.length->∃ a b r,l=a::b::r
 | [],h=>by simp at h
 | [_],h=>by simp at h
 | a::b::r,_=>⟨a,b,r,rfl⟩
theorem vW {κ:KeyKind}{kd:SortKind}{l:Addr}{vs:List Value}{n:Nat}{P:Fin->Shared->Prop}(ob:s.heap.get? l=some (seqObj "list" vs.toArray n))(hks:KeysOf κ (pairsOf vs))
  (hO:∀ A E (s':Shared),(∀ a o,a≠l->s.heap.get? a=some o->s'.heap.get? a=some o)->LtR prog w A E s' κ kd)
  (hkk:∀ A E (s':Shared) (Q:SortKind->Shared->Prop),2<=vs.length->(∀ a o,a≠l->s.heap.get? a=some o->s'.heap.get? a=some o)->Q kd s'->wpAny (model prog w) A (keyKind' vs.toArray) Q E s') (hmx:vs.length<=sizeLine)
  (h:∀ st':SortSt,(arrOf st').Perm (pairsOf vs)->SortedToK κ (arrOf st') (pairsOf vs).size->P (.done (.ret .none)) { s with heap:=sortedHeap s.heap l vs ((arrOf st').map (·.2)) }) :
  wpAny (model prog w) A (Builtin.«list.sort» ⟨[.ref l],[]⟩) P E s:=by
 rw [list_sort_plain]
 have hlt:l<s.heap.objs.size:=Heap.lt_size ob
 have hsz:vs.toArray.size=vs.length:=by simp
 refine wpAny_bind (listItems_at ob rfl (wpAny_bind (listUpdate_at ob rfl ?_ (hsz:=by rw [hsz];exact hmx))))
 obtain ⟨ep,ob1⟩:∃ ep,(s.heap.update l (Obj.mapSeq fun _=>#[])).get? l=some (seqObj "list" #[] ep):=⟨_,get?_update_seq ob (fun _=>#[])⟩
 refine wpAny_bind (seqEpoch_at ob1 rfl (wpAny_bind (wpAny_newTuple (wpAny_bind (wpAny_newList (wpAny_holding ?_))))))
 have ob2:(((s.heap.update l (Obj.mapSeq fun _=>#[])).push (seqObj "tuple" vs.toArray 0)).push (seqObj "list" #[] 0)).get? l=some (seqObj "list" #[] ep) :=
  Heap.get?_push_of_some _ (Heap.get?_push_of_some _ ob1)
 show wpAny (model prog w) A _ P E { s with heap:=((s.heap.update l (Obj.mapSeq fun _=>#[])).push (seqObj "tuple" vs.toArray 0)).push (seqObj "list" #[] 0) }
 dsimp only
 by_cases hnb:vs.toArray.size<2
 ·rw [if_pos hnb,if_pos hnb]
  refine wpAny_bind (wpAny_pure ?_);rw [StateT.run_pure];refine wpAny_bind (wpAny_pure ?_);dsimp only
  refine wpAny_bind (seqEpoch_at ob2 rfl (wpAny_bind (listUpdate_at ob2 rfl ?_ (hsz2:=?_))))
  ·simp only [bne_self_eq_false,Bool.false_eq_true,if_false]
   refine wpAny_pure (h (SortSt.mk' general' (vs.toArray.zip vs.toArray) #[] 7 none) (Array.Perm.refl _) fun i j hij hj=>?_)
   obtain rfl:i=j:=by rw [pairsOf_size] at hj;omega
   exact KeyOrd.kle_refl _
  ·rw [Array.size_map];show (pairsOf vs).size<=_;rw [pairsOf_size];rw [sizeLine_eq];omega
 rw [if_neg hnb,if_neg hnb]
 have hag:∀ a o,a≠l->s.heap.get? a=some o->(((s.heap.update l (Obj.mapSeq fun _=>#[])).push (seqObj "tuple" vs.toArray 0)).push (seqObj "list" #[] 0)).get? a=some o:=fun a o na ha =>
  Heap.get?_push_of_some _ (Heap.get?_push_of_some _ (by rw [Heap.get?_update_ne _ _ _ _ na];exact ha))
 refine wpAny_bind (hkk _ _ _ _ (by omega) hag (wpAny_bind (wpAny_mono (Mr (κ:=κ) (hO _ _ _ hag) (z:=pairsOf vs) (st:=SortSt.mk' kd (vs.toArray.zip vs.toArray) #[] 7 none)
  (Q:=fun _ st'=>SB kd (pairsOf vs) st'∧Up κ (arrOf st') 0 (pairsOf vs).size) hks ⟨Array.Perm.refl _,rfl,rfl⟩ rfl (by rw [pairsOf_size];omega) fun st' a1 a2=>⟨a1,a2⟩) ?_ fun _ _ e=>e)))
 rintro ⟨⟨⟩,st'⟩ s' ⟨rfl,hB,hu⟩
 dsimp only
 have hpm:=hB.prm
 refine wpAny_bind (seqEpoch_at ob2 rfl (wpAny_bind (listUpdate_at ob2 rfl ?_ (hsz2:=?_))))
 ·rw [hB.ffl]
  simp only [bne_self_eq_false,Bool.false_eq_true,if_false]
  exact wpAny_pure (h st' hpm fun i j hij hj=>hu i j (Nat.zero_le _) hij hj)
 ·refine Nat.le_trans (Nat.le_of_eq ((Array.size_map ..).trans (hpm.size_eq.trans (pairsOf_size _)))) ?_
  rw [sizeLine_eq] at hmx ⊢
  omega
theorem yL {κ:KeyKind}{kd:SortKind}{l:Addr}{vs:List Value}{Q:Value->Shared->Prop}(hl:s.heap.IsList l vs.toArray)(hks:KeysOf κ (pairsOf vs))
  (hO:∀ A E (s':Shared),(∀ a o,s.heap.get? a=some o->s'.heap.get? a=some o)->LtR prog w A E s' κ kd)
  (hkk:∀ A E (s':Shared) (Q:SortKind->Shared->Prop),2<=vs.length->(∀ a o,s.heap.get? a=some o->s'.heap.get? a=some o)->Q kd s'->wpAny (model prog w) A (keyKind' vs.toArray) Q E s') (hmx:vs.length<=sizeLine)
  (h:∀ st':SortSt,(arrOf st').Perm (pairsOf vs)->SortedToK κ (arrOf st') (pairsOf vs).size->Q (.ref (s.heap.objs.size+1)) { s with heap:=sortedAll s.heap vs ((arrOf st').map (·.2)) }) :
  wpAny (model prog w) A (call (.builtin "sorted") [.ref l]) Q E s:=by
 refine Calls.call_function_entry kind_sorted plain_sorted entry_sorted (args_sorted1 _) ?_
 unfold Builtin.«sorted»
 refine wpAny_bind (m:=checkCount "sorted" 1 1 _) (wpAny_pure (wpAny_bind (collect_list hl (wpAny_bind (wpAny_newList ?_)) (hsz:=by simpa using hmx))))
 have e1:((s.heap.push (seqObj "list" #[] 0)).update s.heap.objs.size (Obj.mapSeq (· ++ vs.toArray))).objs.size=s.heap.objs.size+1:=by
  rw [Heap.size_update,size_push']
 have e2:(((s.heap.push (seqObj "list" #[] 0)).update s.heap.objs.size (Obj.mapSeq (· ++ vs.toArray))).push (seqObj "list" vs.toArray 0)).get? (s.heap.objs.size+1)=some (seqObj "list" vs.toArray 0):=by
  conv=>lhs;rw [<- e1]
  exact Heap.get?_push_size _ rfl
 have e3:∀ a o,s.heap.get? a=some o->a≠s.heap.objs.size+1∧(((s.heap.push (seqObj "list" #[] 0)).update s.heap.objs.size (Obj.mapSeq (· ++ vs.toArray))).push (seqObj "list" vs.toArray 0)).get? a=some o:=fun a o ha =>
  have hlt:a<s.heap.objs.size:=Heap.lt_size ha
  ⟨Nat.ne_of_lt (Nat.lt_succ_of_lt hlt),Heap.get?_push_of_some _ (by rw [Heap.get?_update_ne _ _ _ _ (Nat.ne_of_lt hlt)];exact Heap.get?_push_of_some _ ha)⟩
 show wpAny _ _ _ _ _ { s with heap:=((s.heap.push (seqObj "list" #[] 0)).update s.heap.objs.size (Obj.mapSeq (· ++ vs.toArray))).push (seqObj "list" vs.toArray 0) }
 rw [e1]
 refine wpAny_bind (wpAny_holding (wpAny_call_entry slot_list_sort ⟨_,e2,rfl⟩ entry_list_sort (vW e2 hks (fun A E s' hs=>hO A E s' fun a o ha=>hs a o (e3 a o ha).1 (e3 a o ha).2) (fun A E s' Q h2 hs=>hkk A E s' Q h2 fun a o ha=>hs a o (e3 a o ha).1 (e3 a o ha).2) hmx fun st' a1 a2=>⟨_,rfl,wpAny_pure ⟨_,rfl,?_⟩⟩) (args_list_sort _)))
 exact h st' a1 a2
theorem rB {vs:List Value}{ss:List Str}(hS:StrsAre vs ss)(h2:2<=vs.length):keyKind' vs.toArray=pure oneType':=by
 obtain ⟨v1,v2,r,e⟩:=Lg h2
 rw [e] at hS ⊢
 exact keyKind_strs hS
theorem xH {l:Addr}{vs:List Value}{ss:List Str}{Q:Value->Shared->Prop}(hl:s.heap.IsList l vs.toArray)(hS:StrsAre vs ss)(hmx:vs.length<=sizeLine)
  (h:∀ (out:Array Value) (ss':List Str),StrsAre out.toList ss'->ss'.Perm ss->sortedS ss'=true->Q (.ref (s.heap.objs.size+1)) { s with heap:=sortedAll s.heap vs out }) :
  wpAny (model prog w) A (call (.builtin "sorted") [.ref l]) Q E s:=by
 refine yL hl hS.keysOf (fun _ _ _ _=>zM strKind_oneLt) (fun _ _ _ _ h2 _ q=>?_) hmx fun st' a1 a2=>?_
 ·rw [rB hS h2];exact wpAny_pure q
 ·obtain ⟨ss',h1,h2,h3⟩:=sorted_out_str hS a1 a2
  exact h _ ss' h1 h2 h3
end
end SR
namespace L2
open PySem PyProof.Rows PySem.Spec
section
variable {X:Cx}
theorem kS:eO X (.builtin "sorted") (fun xs H Q=>∃ (p:Addr) (ls:List (List Nat)),xs=[.ref p]∧SqL X.K H p (ls.map T)∧∀ (ms:List (List Nat)) (D:Addr),H D=none->ms.Perm ls->ms.Pairwise (fun a b=>¬ b<a)->Q (.ref D) (upd H D (.lst (ms.map T)))):=by
 intro pins s σ H xs us Q I r h
 obtain ⟨p,ls,rfl,hq,q⟩:=h
 obtain ⟨u,rfl,ru⟩:=fV r
 cases ru
 obtain ⟨its,rv,pl,hz⟩:=I.list hq
 have hlen:=rv.length
 rw [List.length_map] at hlen hz
 have key:∀ (out:Array Value) (ss':List Str),StrsAre out.toList ss'->ss'.Perm (ls.map tx)->sortedS ss'=true->EP X pins σ Q (.ref (s.heap.objs.size+1)) { s with heap:=sortedAll s.heap its out }:=fun out ss' a1 a2 a3=>by
  obtain ⟨e,he⟩:=sortedAll_at s.heap its out
  have em:(ss'.map fun x=>x.cps.toList).map tx=ss':=by
   rw [List.map_map]
   conv=>rhs;rw [<- List.map_id ss']
   exact List.map_congr_left fun x _=>iL x
  have hp:(ss'.map fun x=>x.cps.toList).Perm ls:=by
   have y:=a2.map fun x=>x.cps.toList
   rw [List.map_map,show (fun x=>x.cps.toList)∘tx=id from funext eJ,List.map_id] at y
   exact y
  refine ⟨.ref _,_,I.laid (t':=s.toks) (fun _ _=>sortedAll_old) (Nat.le_succ _) (o:=.lst ((ss'.map fun x=>x.cps.toList).map T)) ⟨?_,out.toList,e,mM a1,by simpa using he⟩,rfl,q _ _ (I.hok.fresh (Nat.le_succ _)) hp (qI _ (by rw [em];exact a3))⟩
  rw [List.length_map,hp.length_eq]
  exact hz
 exact SR.xH pl.isList (qT rv) (by rw [<- hlen];exact hz) key
end
end L2
namespace L2
open PySem PyProof.Rows PySem.Spec
section
variable {X:Cx}
theorem mV {x:V}:∀ {xs:List V} {us:List Value},bX xs us->xs.all gM=true->us.countP (eqU x)=xs.countP (fun y=>eqV y x)
 | _,_,.nil,_=>rfl
 | y::xs,u::us,.cons r t,f=>by
  rw [List.all_cons,Bool.and_eq_true] at f
  rw [List.countP_cons,List.countP_cons,mV t f.2,xX r f.1]
theorem Cp:MtR X "list.count" (fun x xs H Q=>∃ (p:Addr) (ys:List V) (a:V),x = .ref p∧xs=[a]∧SqL X.K H p ys∧ys.all gM=true∧gM a=true∧Q (.int ((ys.countP (fun y=>eqV y a):Nat):Int)) H):=by
 intro pins s σ H x xs v us Q I rx rs h
 obtain ⟨p,ys,a,rfl,rfl,hq,hf,ha,q⟩:=h
 cases rx
 obtain ⟨u,rfl,ru⟩:=fV rs
 obtain ⟨its,r,⟨⟨cls,dd,data,sl⟩,n,ho,hc,hdd,hd⟩,hz⟩:=I.list hq
 simp only at hc hd
 subst hc hd
 refine call_meets PySem.F.slot_list_count ⟨_,ho,rfl⟩ PySem.F.entry_list_count (PySem.F.args_list_count_2 _ _) (SeqAt.list_countAt p its.toArray n dd sl u (eqU a))
  ⟨ho,fun y hy=>lQ ru ha r hf y (by simpa using hy),⟨.int ((ys.countP (fun y=>eqV y a):Nat):Int),H,I.tok _,⟨s.toks,by rw [<- mV r hf]⟩,q⟩⟩
theorem Bp (hc:X.calm=true):eO X (.builtin "sum") (fun xs H Q=>∃ (p:Addr) (ns:List Int),xs=[.ref p]∧SqL X.K H p (ns.map V.int)∧Q (.int ns.sum) H):=by
 intro pins s σ H xs us Q I r h
 obtain ⟨p,ns,rfl,hq,q⟩:=h
 obtain ⟨u,rfl,ru⟩:=fV r
 cases ru
 obtain ⟨its,rv,pl,_⟩:=I.list hq
 have hia:=xA rv
 have hnum:=hia.numsOf
 obtain ⟨ys,hx⟩:=hia.allInts.items
 have hl:=pl.isList
 rw [hx] at hl
 have e:preSum (numAt ys) ys.size=ns.sum:=by
  rw [preSum_eq,List.take_of_length_le (by simp)]
  rw [<- hnum,show its=its.toArray.toList from by simp,hx,nums_intItems]
 exact sum_intListG (I.ok.hd hc) hl fun h' tk t' hk=>⟨.int ns.sum,H,I.kept hk,⟨t',by rw [e]⟩,q⟩
end
end L2
namespace L2
open PySem PyProof.Rows PySem.Spec
section
variable {X:Cx}
theorem qO (K:PySem.W.Frag)(hK:X.K=K):MtR X "list.count" (fun x xs H Q=>∃ (p:Addr) (ys:List V) (a:V),x = .ref p∧xs=[a]∧SqL K H p ys∧ys.all gM=true∧gM a=true∧Q (.int ((ys.countP (fun y=>eqV y a):Nat):Int)) H):=by
 subst hK
 exact Cp
theorem Ef (K:PySem.W.Frag)(hK:X.K=K){o e:Expr}{es:List Expr}{to:TE}{t:TA}{name:Str}{apos cpos:Pos}{T id:String}{r:V->List V->Hp->VK->Prop}
  (pa:PlainAttrs T) (slot:Slot T name id) (hty:typeOf (.builtin id)=pure (.type "method_descriptor")) (hm:MtR X id r) (ho:PE X o to) (ha:PA X (e::es) t)
  (b1:attributeBase o name X.env (eval o X.env)=eval o X.env:=by rfl)
  (b2:((backTo cpos (starEach (e::es) X.env)).all (fun x=>!x.1)&&(backToKw cpos (keywordEach [] X.env)).all (fun x=>x.1.isSome)&&decide ((e::es).length+([]:List Keyword).length+(if ([]:List Keyword).isEmpty then 0 else 1)<30))=true:=by rfl)
  (b3:(apos.endLine==cpos.line)=true:=by rfl) (b4:starEach (e::es) X.env=(false,eval e X.env)::starEach es X.env:=by rfl) (b5:(backTo cpos (starEach es X.env)).any (·.1)=false:=by rfl) :
  PE X (.Call (.Attribute o name apos) (e::es) [] cpos) (tBM K T r to t):=by
 subst hK
 exact uG pa slot hty hm ho ha b1 b2 b3 b4 b5
end
end L2
namespace L2
open PySem PySem.Spec PyProof.Rows
end L2
namespace L2
open PySem PySem.Spec PyProof.Rows
section
variable (P:Program)(w:World)
end
section
variable {P:Program}{w:World}{H H':Hp}{h h':Heap}{a:Addr}{o:HO}
end
section
variable {P:Program}{w:World}{H:Hp}{h h':Heap}{x e:Addr}{o':HO}
end
section
variable {fs fs' ex ex':List Addr}{H H1 H2:Hp}{h h1 h2 h':Heap}{a x e:Addr}{o:HO}
end
end L2
namespace L2
open PySem PySem.Spec PyProof.Rows
section
variable {X:Cx}{pins:List (Addr×Obj)}{σ:List (Option V)}{H H':Hp}{s:Shared}{h':Heap}
end
end L2
namespace L2
open PySem PySem.Spec PyProof.Rows
section
variable {X:Cx}
variable {a b:Expr}{ta tb:TE}{pos:Pos}
variable {tA tB':TT}{rest:List Expr}
end
end L2
namespace L2
open PySem PySem.Spec PyProof.Rows
section
variable {X:Cx}{pins:List (Addr×Obj)}{σ:St}{H:Hp}{s:Shared}{a:Addr}{xs ys:List V}
end
section
variable {X:Cx}{pins:List (Addr×Obj)}{σ:St}{H:Hp}{s:Shared}{E:Value->Shared->Prop}
end
section
variable {X:Cx}{st:Stmt}{rest:List Stmt}{t u:TS}{e:Expr}{te:TE}{pos:Pos}
end
section
variable {X:Cx}{pos:Pos}
end
section
variable {X:Cx}{pos:Pos}
end
end L2
namespace L2
open PySem PySem.Spec PyProof.Rows
section
variable {X:Cx}{tg:Expr}
end
end L2
namespace L2
open PySem PySem.Spec PyProof.Rows
section
variable {X:Cx}{a b c:Expr}{ta tb tc:TE}{pos:Pos}
end
section
variable {X:Cx}{a b c:Expr}{ta tb tc:TE}{pos:Pos}
end
end L2
namespace L2
open PySem PySem.Spec PyProof.Rows
section
variable {prog:Program}{w:World}{A:Around}{E:Value->Shared->Prop}{s:Shared}{K:PySem.W.Frag}{x dx C f:Addr}{mA:Str->Option Value}{name:Str}{v:Value}
end
section
variable {P:Program}{w:World}{H H':Hp}{h h':Heap}{a C dx:Addr}{fs fs':List (Str×V)}
end
section
variable {X:Cx}{pins:List (Addr×Obj)}{σ:St}{H:Hp}{s:Shared}{a C dx:Addr}{fs:List (Str×V)}{f:Str}{v:V}{A:Around}{E:Value->Shared->Prop}
end
section
variable {X:Cx}{o e value:Expr}{f:Str}{pos pos' tpos:Pos}{ta tv:TE}
end
section
variable {X:Cx}{pins:List (Addr×Obj)}{σ:St}{H:Hp}{s:Shared}{A:Around}{E:Value->Shared->Prop}{Q:Value->Shared->Prop}{c:Value}{b:Bool}
end
end L2
namespace L2
open PySem PySem.Spec PyProof.Rows
section
variable {X:Cx}{e:Expr}{es:List Expr}{te:TE}{t:TA}{pos:Pos}
end
section
variable {X:Cx}{pins:List (Addr×Obj)}{σ:St}{H:Hp}{s s':Shared}
end
section
variable {X:Cx}{CX:CXT}{k:Nat}{f C:Addr}{fd:FuncData}{ps:List Str}{sp:Sp}{dvs:List V}{ds:List Value}{E:XK}{x m:Str}{p pos apos:Pos}{e o:Expr}{es:List Expr}{ta:TE}{t:TA}
end
section
variable {X:Cx}{CX:CXT}{k:Nat}{f C:Addr}{fd:FuncData}{ps ks:List Str}{sp:Sp}{E:XK}{x m:Str}{p pos apos kpos:Pos}{e o:Expr}{es:List Expr}{kws:List Keyword}{te ta:TE}{t tk:TA}{nm:Option Str}
variable {g:List Value->List Value->List Value}{gV:List V->List V->List V}
end
end L2
namespace L2
open PySem PySem.Spec PyProof.Rows
section
variable {X:Cx}{x:Str}{p pos:Pos}{e:Expr}{es:List Expr}{t:TA}{id T:String}{r:List V->Hp->VK->Prop}
end
end L2
namespace L2
open PySem PySem.Spec PyProof.Rows
section
variable {κ:Type}[DecidableEq κ]
def fY (kvs:List (κ×V))(k:κ):Option V:=(kvs.find? fun kv=>decide (kv.1=k)).map (·.2)
def fG (kvs:List (κ×V))(k:κ)(v:V):List (κ×V) :=
 if (kvs.any fun kv=>decide (kv.1=k))=true then kvs.map (fun kv=>if kv.1=k then (kv.1,v) else kv) else kvs++[(k,v)]
theorem iZ {p:κ×V}{r:List (κ×V)}{k:κ}(e:p.1=k):fY (p::r) k=some p.2:=by simp [fY,List.find?_cons,e]
theorem gO {p:κ×V}{r:List (κ×V)}{k:κ}(e:¬ p.1=k):fY (p::r) k=fY r k:=by simp [fY,List.find?_cons,e]
theorem vB (k:κ):∀ kvs:List (κ×V),(kvs.any fun kv=>decide (kv.1=k))=(fY kvs k).isSome
 | []=>rfl
 | p::r=>by
  rw [List.any_cons]
  by_cases e:p.1=k
  ·simp only [iZ e,decide_eq_true e,Bool.true_or,Option.isSome_some]
  ·rw [gO e,decide_eq_false e,Bool.false_or];exact vB k r
theorem jK (kvs:List (κ×V))(k:κ)(v:V):(fG kvs k v).length<=kvs.length+1:=by
 unfold fG
 split
 ·rw [List.length_map];omega
 ·rw [List.length_append,List.length_cons,List.length_nil];omega
theorem iQ.isSome_eq {o:Option V}{u:Option Value}(r:iQ o u):o.isSome=u.isSome:=by
 cases o with
 | none=>cases u with
  | none=>rfl
  | some _=>exact (show False from r).elim
 | some _=>cases u with
  | none=>exact (show False from r).elim
  | some _=>rfl
theorem KV.val {kvs:List (κ×V)}{vs:List (κ×Value)}(r:KV kvs vs)(k:κ):iQ (fY kvs k) (valueAt vs k):=by
 unfold KV at r
 induction r with
 | nil=>exact True.intro
 | @cons p q ps qs h t ih =>
  obtain ⟨h1,h2⟩:=h
  by_cases e:p.1=k
  ·have e':q.1=k:=h1.symm.trans e
   have b:valueAt (q::qs) k=some q.2:=by simp [valueAt,List.find?_cons,e']
   rw [iZ e,b];exact h2
  ·have e':¬ q.1=k:=fun z=>e (h1.trans z)
   have b:valueAt (q::qs) k=valueAt qs k:=by simp [valueAt,List.find?_cons,e']
   rw [gO e,b];exact ih
theorem KV.any {kvs:List (κ×V)}{vs:List (κ×Value)}(r:KV kvs vs)(k:κ):(kvs.any fun kv=>decide (kv.1=k))=vs.any fun kv=>decide (kv.1=k):=by
 unfold KV at r
 induction r with
 | nil=>rfl
 | cons h t ih=>rw [List.any_cons,List.any_cons,ih,h.1]
theorem KV.repl {kvs:List (κ×V)}{vs:List (κ×Value)}(r:KV kvs vs)(k:κ){y:V}{u:Value}(ry:bJ y u) :
  KV (kvs.map fun kv=>if kv.1=k then (kv.1,y) else kv) (vs.map fun kv=>if kv.1=k then (kv.1,u) else kv):=by
 unfold KV at r ⊢
 induction r with
 | nil=>exact .nil
 | @cons p q ps qs h t ih =>
  rw [List.map_cons,List.map_cons]
  refine .cons ?_ ih
  obtain ⟨h1,h2⟩:=h
  by_cases e:p.1=k
  ·rw [if_pos e,if_pos (h1.symm.trans e)];exact ⟨h1,ry⟩
  ·rw [if_neg e,if_neg (fun z=>e (h1.trans z))];exact ⟨h1,h2⟩
theorem KV.put {kvs:List (κ×V)}{vs:List (κ×Value)}(r:KV kvs vs)(k:κ){y:V}{u:Value}(ry:bJ y u):KV (fG kvs k y) (stored vs k u):=by
 unfold fG stored
 rw [r.any k]
 by_cases e:(vs.any fun kv=>decide (kv.1=k))=true
 ·rw [if_pos e,if_pos e];exact r.repl k ry
 ·rw [if_neg e,if_neg e];exact Paired.snoc r ⟨rfl,ry⟩
theorem KV.keys {kvs:List (κ×V)}{vs:List (κ×Value)}(r:KV kvs vs):kvs.map (·.1)=vs.map (·.1):=by
 unfold KV at r
 induction r with
 | nil=>rfl
 | cons h t ih=>rw [List.map_cons,List.map_cons,ih,h.1]
theorem KV.length {kvs:List (κ×V)}{vs:List (κ×Value)}(r:KV kvs vs):kvs.length=vs.length:=Paired.length r
end
theorem vS {P:Program}{w:World}{k:Key}{u:Value}(r:bJ (kV k) u):(bN P w).is k u=true:=by
 cases k with
 | inl i=>obtain ⟨t,e⟩:=(show ∃ t,u=Value.int i t from r);subst e;exact uS P w i t
 | inr x=>obtain ⟨t,e⟩:=(show ∃ t,u=Value.str x t from r);subst e;exact vC P w x t
theorem rL {P:Program}{w:World}:∀ {ks:List Key} {us:List Value},bX (ks.map kV) us->ItemsAre (bN P w) ks us
 | [],_,r=>by rw [List.map_nil] at r;cases r;exact .nil
 | k::ks,_,r=>by
  rw [List.map_cons] at r
  cases r with
  | cons h t=>exact .cons (vS h) (rL t)
abbrev KT (H:Hp):List (List Key×V)->List (List Key×Addr×Value)->Prop:=Paired fun p q=>p.1=q.1∧H q.2.1=some (.tup (p.1.map kV))∧bJ p.2 q.2.2
theorem KT.val {H:Hp}{kvs:List (List Key×V)}{xs:List (List Key×Addr×Value)}(r:KT H kvs xs)(k:List Key):iQ (fY kvs k) ((atKey xs k).map (·.2)):=by
 induction r with
 | nil=>exact True.intro
 | @cons p q ps qs h t ih =>
  obtain ⟨h1,_,h2⟩:=h
  by_cases e:p.1=k
  ·have e':q.1=k:=h1.symm.trans e
   have b:atKey (q::qs) k=some q.2:=by simp [atKey,List.find?_cons,e']
   rw [iZ e,b];exact h2
  ·have e':¬ q.1=k:=fun z=>e (h1.trans z)
   have b:atKey (q::qs) k=atKey qs k:=by simp [atKey,List.find?_cons,e']
   rw [gO e,b];exact ih
theorem KT.repl {H:Hp}{kvs:List (List Key×V)}{xs:List (List Key×Addr×Value)}(r:KT H kvs xs)(k:List Key){y:V}{u:Value}(ry:bJ y u) :
  KT H (kvs.map fun kv=>if kv.1=k then (kv.1,y) else kv) (xs.map (putAt k u)):=by
 induction r with
 | nil=>exact .nil
 | @cons p q ps qs h t ih =>
  rw [List.map_cons,List.map_cons]
  refine .cons ?_ ih
  obtain ⟨h1,h2,h3⟩:=h
  unfold putAt
  by_cases e:p.1=k
  ·rw [if_pos e,if_pos (h1.symm.trans e)];exact ⟨h1,h2,ry⟩
  ·rw [if_neg e,if_neg (fun z=>e (h1.trans z))];exact ⟨h1,h2,h3⟩
theorem KT.put {H:Hp}{kvs:List (List Key×V)}{xs:List (List Key×Addr×Value)}(r:KT H kvs xs)(k:List Key){b:Addr}{y:V}{u:Value}(hb:H b=some (.tup (k.map kV)))(ry:bJ y u) :
  KT H (fG kvs k y) (storedH xs k b u):=by
 have e:(kvs.any fun kv=>decide (kv.1=k))=(atKey xs k).isSome:=by
  rw [vB,(r.val k).isSome_eq,Option.isSome_map]
 unfold fG storedH
 rw [e]
 by_cases q:(atKey xs k).isSome=true
 ·rw [if_pos q,if_pos q];exact r.repl k ry
 ·rw [if_neg q,if_neg q];exact Paired.snoc r ⟨rfl,hb,ry⟩
theorem KT.keeps {H H':Hp}{kvs:List (List Key×V)}{xs:List (List Key×Addr×Value)}(r:KT H kvs xs)(ht:∀ b ys,H b=some (.tup ys)->H' b=some (.tup ys)):KT H' kvs xs :=
 Paired.mapP r fun _ _ z=>⟨z.1,ht _ _ z.2.1,z.2.2⟩
section
variable {P:Program}{w:World}{H:Hp}{h:Heap}{a:Addr}
theorem Jh {u:HO}(ok:HOk P w H h)(e:Rd H a u):cG P w H h a u:=e.ok ok
theorem qJ {kvs:List (Key×V)}(ok:HOk P w H h)(e:Rd H a (.dK kvs)):kvs.length<=sizeLine∧(a==sysModules)=false∧∃ vs,KV kvs vs∧h.DictOf (bN P w) a vs :=
 show cG P w H h a (.dK kvs) from Jh ok e
theorem nA {kvs:List (Key×V)}(ok:HOk P w H h)(e:H a=some (.dK kvs)):kvs.length<=sizeLine∧(a==sysModules)=false∧∃ vs,KV kvs vs∧h.DictOf (bN P w) a vs:=qJ ok (.inl e)
theorem sE {ks:List Key}(ok:HOk P w H h)(e:H a=some (.tup (ks.map kV))):(tupleKind (bN P w)).is h ks a:=by
 obtain ⟨_,its,r,o,h1,h2,n,h3⟩:=(show cG P w H h a (.tup (ks.map kV)) from ok a _ e)
 exact ⟨o,its.toArray,n,h1,h2,h3,by simpa using rL r⟩
theorem yU {kvs:List (List Key×V)}(ok:HOk P w H h)(e:Rd H a (.dT kvs)):kvs.length<=sizeLine∧(a==sysModules)=false ∧
  ∃ xs,KT H kvs xs∧h.DictOfH (tupleKind (bN P w)) a xs:=by
 obtain ⟨z,y,xs,r,o,es,ep,h1,h2,h3,h4,h5⟩:=(show cG P w H h a (.dT kvs) from Jh ok e)
 refine ⟨z,y,xs,r,o,es,ep,h1,h2,h3,h4,fun x hx=>?_,h5⟩
 have all:∀ {l:List (List Key×V)} {m:List (List Key×Addr×Value)},KT H l m->∀ x∈m,(tupleKind (bN P w)).is h x.1 x.2.1:=by
  intro l m q
  induction q with
  | nil=>intro x hx;exact nomatch hx
  | @cons p q ps qs hq t ih =>
   intro x hx
   rcases List.mem_cons.mp hx with e | hx
   ·subst e
    exact sE ok (by rw [<- hq.1];exact hq.2.1)
   ·exact ih x hx
 exact all r x hx
theorem Pb {kvs:List (List Key×V)}(ok:HOk P w H h)(e:H a=some (.dT kvs)):kvs.length<=sizeLine∧(a==sysModules)=false ∧
 ∃ xs,KT H kvs xs∧h.DictOfH (tupleKind (bN P w)) a xs:=yU ok (.inl e)
end
def lH (H:Hp)(a:Addr)(y:V)(r:Option V):Prop :=
 (∃ kvs k,Rd H a (.dK kvs)∧y=kV k∧r=fY kvs k)∨∃ kvs k b,Rd H a (.dT kvs)∧y = .ref b∧H b=some (.tup (k.map kV))∧r=fY kvs k
def tY (H:Hp)(a:Addr)(y v:V)(H':Hp):Prop :=
 (∃ kvs k,H a=some (.dK kvs)∧y=kV k∧kvs.length<sizeLine∧H'=upd H a (.dK (fG kvs k v))) ∨
 ∃ kvs k b,H a=some (.dT kvs)∧y = .ref b∧H b=some (.tup (k.map kV))∧kvs.length<sizeLine∧H'=upd H a (.dT (fG kvs k v))
theorem lH.k {H:Hp}{a:Addr}{kvs:List (Key×V)}{k:Key}(e:H a=some (.dK kvs)):lH H a (kV k) (fY kvs k):=.inl ⟨kvs,k,.inl e,rfl,rfl⟩
theorem tY.k {H:Hp}{a:Addr}{kvs:List (Key×V)}{k:Key}{v:V}(e:H a=some (.dK kvs))(hl:kvs.length<sizeLine):tY H a (kV k) v (upd H a (.dK (fG kvs k v))):=.inl ⟨kvs,k,e,rfl,hl,rfl⟩
section
variable {X:Cx}{pins:List (Addr×Obj)}{σ:St}{H:Hp}{s:Shared}{a:Addr}{y v:V}{u r:Value}{o:Option V}{A:Around}{E:Value->Shared->Prop}
theorem Inv.big (I:Inv X pins σ H s):sysModules<s.heap.objs.size:=by
 have h:mainGlobals<s.heap.objs.size:=(I.mod.glob.keeps I.bk).lt
 exact Nat.lt_trans (by decide) h
theorem Bh {Q:Value->Shared->Prop}(hu:A.units+1<cLine)(I:Inv X pins σ H s)(g:lH H a y (some v))(ry:bJ y u)(h:∀ w' s',Inv X pins σ H s'->bJ v w'->Q w' s') :
  wpAny (model X.prog X.w) A (getItem (.ref a) u) Q E s:=by
 rcases g with ⟨kvs,k,e,ey,l⟩ | ⟨kvs,k,b,e,ey,eb,l⟩
 ·subst ey
  obtain ⟨z,hd,vs,rel,dd⟩:=qJ I.hok e
  obtain ⟨w',hw,rw'⟩:=iQ.some_of (v:=v) (o:=valueAt vs k) (by rw [l];exact rel.val k)
  exact wpAny_getItem_of (vS ry) dd.mapOf hw (h w' _ (I.tok _) rw')
 ·subst ey
  cases (show u=Value.ref b from ry)
  obtain ⟨z,hd,xs,rel,dd⟩:=yU I.hok e
  obtain ⟨w',hw,rw'⟩:=iQ.some_of (v:=v) (o:=(atKey xs k).map (·.2)) (by rw [l];exact rel.val k)
  obtain ⟨p,hp,hp2⟩:=Option.map_eq_some_iff.mp hw
  refine wpAny_getItem_heap (tupleKind_room_in1 hu) (sE I.hok eb) dd hp ?_
  rw [hp2]
  exact h w' _ (I.tok _) rw'
theorem Pr {Q:Value->Shared->Prop}(hu:A.units+1<cLine)(I:Inv X pins σ H s)(g:lH H a y o)(ry:bJ y u)(h:∀ s',Inv X pins σ H s'->Q (.bool o.isSome) s') :
  wpAny (model X.prog X.w) A (compareOp .In u (.ref a)) Q E s:=by
 rcases g with ⟨kvs,k,e,ey,l⟩ | ⟨kvs,k,b,e,ey,eb,l⟩
 ·subst ey
  obtain ⟨z,hd,vs,rel,dd⟩:=qJ I.hok e
  refine wpAny_in_of (vS ry) hd dd.mapOf ?_
  rw [<- (rel.val k).isSome_eq,<- l]
  exact h _ (I.tok _)
 ·subst ey
  cases (show u=Value.ref b from ry)
  obtain ⟨z,hd,xs,rel,dd⟩:=yU I.hok e
  refine wpAny_in_heap (tupleKind_room_in1 hu) (sE I.hok eb) hd dd ?_
  have q:=(rel.val k).isSome_eq
  rw [Option.isSome_map] at q
  rw [<- q,<- l]
  exact h _ (I.tok _)
theorem rP {h':Heap}{t':Nat}{ob:HO}(I:Inv X pins σ H s)(mu:Mut (H a))(hs:Heap.SameBut a s.heap h')(he:∃ q,h'.get? a=some q)(new:cG X.prog X.w (upd H a ob) h' a ob) :
  Inv X pins σ (upd H a ob) { s with heap:=h',toks:=t' } :=
 I.write (x:=a) (e:=a) mu (.inl rfl) (fun b q hb z=>(hs.2 b hb).trans z) he new
theorem wJ {P:Program}{w:World}{H':Hp}{h':Heap}{kvs:List (Key×V)}{vs:List (Key×Value)}(z:kvs.length<=sizeLine)(hd:(a==sysModules)=false)(rel:KV kvs vs)(dd:h'.DictOf (bN P w) a vs) :
 cG P w H' h' a (.dK kvs):=⟨z,hd,vs,rel,dd⟩
theorem Ba {H':Hp}{Q:Unit->Shared->Prop}(hu:A.units+1<cLine)(I:Inv X pins σ H s)(g:tY H a y v H')(ry:bJ y u)(rv:bJ v r)(h:∀ s',Inv X pins σ H' s'->Q () s') :
  wpAny (model X.prog X.w) A (setItem (.ref a) u r) Q E s:=by
 rcases g with ⟨kvs,k,e,ey,l,eH⟩ | ⟨kvs,k,b,e,ey,eb,l,eH⟩
 ·subst ey eH
  obtain ⟨z,hd,vs,rel,dd⟩:=nA I.hok e
  have hz:vs.length<=sizeLine:=by rw [<- rel.length];exact z
  have hl:(fG kvs k v).length<=sizeLine:=by have:=jK kvs k v;omega
  refine wpAny_setItem_pairs (hsz:=hz) (vS ry) dd fun h' dd' hs=>h _ ?_
  have he:∃ q,h'.get? a=some q:=let ⟨q,_,_,hq,_⟩:=dd';⟨q,hq⟩
  exact rP I (by rw [e];exact True.intro) hs he (wJ hl hd (rel.put k rv) dd')
 ·subst ey eH
  cases (show u=Value.ref b from ry)
  obtain ⟨z,hd,xs,rel,dd⟩:=Pb I.hok e
  have hz:xs.length<=sizeLine:=by rw [<- Paired.length rel];exact z
  have hl:(fG kvs k v).length<=sizeLine:=by have:=jK kvs k v;omega
  refine wpAny_setItem_heap (hsz:=hz) (tupleKind_room_in1 hu) (sE I.hok eb) dd fun h' dd' hs=>h _ ?_
  obtain ⟨q,es,ep,hq,h2,h3,h4,_,h5⟩:=dd'
  refine rP I (by rw [e];exact True.intro) hs ⟨q,hq⟩ ⟨hl,hd,_,(rel.put k eb rv).keeps fun c ys ec=>?_,q,es,ep,hq,h2,h3,h4,h5⟩
  rw [aI (Oe ec e (fun z=>nomatch z))]
  exact ec
end
section
variable {X:Cx}{pins:List (Addr×Obj)}{σ:St}{H:Hp}{s:Shared}{a:Addr}{kvs:List (Key×V)}{k:Key}{u:Value}{A:Around}{E:Value->Shared->Prop}
theorem Ob {Q:Value->Shared->Prop}(I:Inv X pins σ H s)(e:Rd H a (.dK kvs))(h:∀ t s',Inv X pins σ H s'->Q (.int kvs.length t) s'):wpAny (model X.prog X.w) A (call (.builtin "len") [.ref a]) Q E s:=by
 obtain ⟨z,hd,vs,rel,dd⟩:=qJ I.hok e
 refine call_len_dict hd dd (by rw [<- rel.length];rw [sizeLine_eq] at z;omega) ?_
 rw [<- rel.length]
 exact h _ _ (I.tok _)
end
def Nb (i:Expr):Prop:=∀ ov iv,subscripted i false ov iv=operate [ov,iv] (getItem ov iv)
theorem Hr {prog:Program}{w:World}{A:Around}{E:Value->Shared->Prop}{s:Shared}{env:Env}{value slice:Expr}{pos:Pos}{T id:String}{Q:Value->Shared->Prop}
  (hl:typeLookup (.type T) "__getitem__" = pure (some (.builtin id))) (hs:Nb slice)
  (h:wpAny (model prog w) A (eval value env) (fun o s₁=>wpAny (model prog w) A (eval slice env) (fun i s₂=>s₂.TypeIs o T∧wpAny (model prog w) A (getItem o i) Q E s₂) E s₁) E s) :
  wpAny (model prog w) A (eval (.Subscript value slice pos) env) Q E s:=by
 refine Subscript_ (wpAny_mono h (fun o s₁ h₁=>wpAny_mono h₁ (fun i s₂ h₂=>?_) fun _ _ x=>x) fun _ _ x=>x)
 obtain ⟨hT,h₂⟩:=h₂
 unfold subscriptTail
 refine wpAny_bind ?_
 rw [getitemInPython_of_ne hT.not_modules]
 refine wpAny_bind (wpAny_specialOf hT hl ?_)
 have fin:wpAny (model prog w) A (subscripted slice false o i) (fun r s₃=>wpAny (model prog w) A (letTemporaryGo value o r >>= fun _=>pure r) Q E s₃) E s₂:=by
  rw [hs o i]
  exact wpAny_operating (wpAny_mono h₂ (fun r s₃ h₃=>wpAny_bind (wpAny_letTemporaryGo (wpAny_pure h₃))) fun _ _ x=>x)
 first
  | exact wpAny_pure (wpAny_bind fin)
  | exact wpAny_bind (wpAny_pure (wpAny_bind fin))
  | exact wpAny_bind fin
theorem vU {X:Cx}{pins:List (Addr×Obj)}{σ:St}{H:Hp}{s:Shared}{a:Addr}{y:V}{o:Option V}(I:Inv X pins σ H s)(g:lH H a y o):s.TypeIs (.ref a) "dict" := by
 rcases g with ⟨kvs,k,e,_,_⟩ | ⟨kvs,k,b,e,_,_,_⟩
 ·obtain ⟨_,_,vs,_,dd⟩:=qJ I.hok e
  exact dd.typeIs
 ·obtain ⟨_,_,xs,_,dd⟩:=yU I.hok e
  exact dd.typeIs
def Og (td ty:TE):TE:=fun σ H Q=>td σ H fun x H1=>ty σ H1 fun y H2=>∃ a v,x = .ref a∧lH H2 a y (some v)∧Q v H2
def Qn (ty td:TE):TE:=fun σ H Q=>ty σ H fun y H1=>td σ H1 fun x H2=>∃ a o,x = .ref a∧lH H2 a y o∧Q (.bl o.isSome) H2
def Nf (td ty tv:TE):TS:=fun D σ H=>tv σ H fun v H1=>td σ H1 fun x H2=>ty σ H2 fun y H3=>∃ a H4,x = .ref a∧tY H3 a y v H4∧D.nx σ H4
section
variable {X:Cx}{o i e value:Expr}{pos pos' tpos:Pos}{td ty tv:TE}
theorem fZ (hu:X.A.units+1<cLine)(ho:PE X o td)(hi:PE X i ty)(hs:Nb i):PE X (.Subscript o i pos) (Og td ty):=by
 intro pins s σ H Q I h
 refine Hr PySem.F.slot_dict_getitem.lookup hs (thn (ho pins s σ H _ I h) fun u s1 ⟨x,H1,I1,rx,q1⟩=>thn (hi pins s1 σ H1 _ I1 q1) fun iv s2 ⟨y,H2,I2,ry,a,v,ex,g,q2⟩=>?_)
 subst ex
 obtain rfl:u=Value.ref a:=rx
 exact ⟨vU I2 g,Bh hu I2 g ry fun w' s3 I3 rw'=>⟨v,H2,I3,rw',q2⟩⟩
theorem Dd (hu:X.A.units+1<cLine)(hi:PE X i ty)(ho:PE X o td):PC X .In i o (Qn ty td):=by
 intro pins s σ H Q I h
 refine thn (hi pins s σ H _ I h) fun iv s1 ⟨y,H1,I1,ry,q1⟩=>thn (ho pins s1 σ H1 _ I1 q1) fun u s2 ⟨x,H2,I2,rx,a,ov,ex,g,q2⟩=>?_
 subst ex
 obtain rfl:u=Value.ref a:=rx
 exact Pr hu I2 g ry fun s3 I3=>⟨.bl ov.isSome,H2,I3,rfl,q2⟩
theorem lB (hu:X.A.units+1<cLine)(ho:PE X o td)(hi:PE X i ty)(hv:PE X value tv)(hs:swapsWith value (some (.Subscript o i pos')) pos.line X.env=pure false) :
  PS X (.Assign [.Subscript o i pos'] value pos) (Nf td ty tv):=by
 intro pins s σ H D I h
 refine wpAny_Assign_Subscript (thn (hv pins s σ H _ I h) fun r s1 ⟨v,H1,I1,rv,q1⟩=>thn (ho pins s1 σ H1 _ I1 q1) fun u s2 ⟨x,H2,I2,rx,q2⟩=>thn (hi pins s2 σ H2 _ I2 q2) fun iv s3 ⟨y,H3,I3,ry,a,H4,ex,g,q3⟩=>?_) hs
 subst ex
 obtain rfl:u=Value.ref a:=rx
 exact Ba hu I3 g ry rv fun s4 I4=>⟨σ,H4,I4,q3⟩
end
theorem Gh {P:Program}{w:World}{H:Hp}(h:Heap)(hb:sysModules<h.objs.size):cG P w H (h.push { cls:=.type "dict",data:=.dict #[] }) h.objs.size (.dK []) :=
 ⟨Nat.zero_le _,beq_eq_false_iff_ne.mpr (Ne.symm (Nat.ne_of_lt hb)),[],.nil,Heap.DictOf.new h⟩
def Lk:TE:=fun _ H Q=>∀ p,H p=none->Q (.ref p) (upd H p (.dK []))
section
variable {X:Cx}{pos:Pos}
theorem iW:PE X (.Dict [] [] pos) Lk:=fun pins s σ H Q I h =>
 wpAny_Dict_empty ⟨.ref s.heap.objs.size,_,I.laid (a:=s.heap.objs.size) (o:=.dK []) (t':=s.toks) (fun _ _ q=>Heap.get?_push_of_some _ q) (Nat.le_refl _) (Gh s.heap I.big),rfl,h _ (I.hok.fresh (Nat.le_refl _))⟩
end
set_option genInjectivity false in
structure M1 (X:Cx)(o:Expr)(m:Str)(apos:Pos)(e:Expr)(cpos:Pos):Prop where
 base:attributeBase o m X.env (eval o X.env)=eval o X.env
 few:((backTo cpos (starEach [e] X.env)).all (fun x=>!x.1)&&(backToKw cpos (keywordEach [] X.env)).all (fun x=>x.1.isSome)
  && decide (([e]:List Expr).length+([]:List Keyword).length+(if ([]:List Keyword).isEmpty then 0 else 1)<30))=true
 line:(apos.endLine==cpos.line)=true
 trees:backTo cpos (starEach [e] X.env)=[(false,eval e X.env)]
set_option genInjectivity false in
structure M2 (X:Cx)(o:Expr)(m:Str)(apos:Pos)(e f:Expr)(cpos:Pos):Prop where
 base:attributeBase o m X.env (eval o X.env)=eval o X.env
 few:((backTo cpos (starEach [e,f] X.env)).all (fun x=>!x.1)&&(backToKw cpos (keywordEach [] X.env)).all (fun x=>x.1.isSome)
  && decide (([e,f]:List Expr).length+([]:List Keyword).length+(if ([]:List Keyword).isEmpty then 0 else 1)<30))=true
 line:(apos.endLine==cpos.line)=true
 trees:backTo cpos (starEach [e,f] X.env)=[(false,eval e X.env),(false,eval f X.env)]
section
variable {X:Cx}{pins:List (Addr×Obj)}{σ:St}{H:Hp}{s:Shared}{a:Addr}{y d:V}{u r:Value}{o:Option V}{A:Around}{E:Value->Shared->Prop}
end
section
variable {X:Cx}{o e f:Expr}{apos cpos:Pos}{td ty tx:TE}
end
section
variable {X:Cx}{pins:List (Addr×Obj)}{σ:St}{H:Hp}{s:Shared}{a:Addr}{kvs:List (Key×V)}{A:Around}{E:Value->Shared->Prop}
theorem Gz {Q:Value->Shared->Prop}(I:Inv X pins σ H s)(e:Rd H a (.dK kvs))(h:∀ p s',H p=none->Inv X pins σ (upd H p (.dK kvs)) s'->Q (.ref p) s'):wpAny (model X.prog X.w) A (call (.type "dict") [.ref a]) Q E s:=by
 obtain ⟨z,hd,vs,rel,dd⟩:=qJ I.hok e
 refine kt_call_dict hd dd (by rw [<- rel.length];exact z) fun h' dd' hs=>?_
 refine h _ _ (I.hok.fresh (Nat.le_refl _)) (I.laid (a:=s.heap.objs.size) (o:=.dK kvs) (t':=s.toks) (fun b q hq=>?_) (Nat.le_refl _) (wJ z (beq_eq_false_iff_ne.mpr (Ne.symm (Nat.ne_of_lt I.big))) rel dd'))
 exact (hs.2 b (Nat.ne_of_lt (Heap.lt_size hq))).trans (Heap.get?_push_of_some _ hq)
end
section
variable {X:Cx}{pins:List (Addr×Obj)}{σ:St}{H:Hp}{s:Shared}{a:Addr}{y:V}{u:Value}{A:Around}{E:Value->Shared->Prop}
end
end L2
namespace Att
open PySem PySem.W PySem.Calls PyProof.Rows
section
variable {prog:Program}{w:World}{A:Around}{E:Value->Shared->Prop}{s:Shared}{K:Frag}
end
end Att
namespace L2
open PySem PySem.Spec PyProof.Rows
end L2
namespace L2
open PySem PySem.Spec PyProof.Rows
end L2
namespace L2
open PySem PySem.Spec PyProof.Rows
section
variable {P:Program}{w:World}{K:PySem.W.Frag}{mg:Str->Option Value}{base:Heap}
end
section
variable {X:Cx}
end
section
variable {κ:Type}[DecidableEq κ]
end
end L2
namespace L2
open PySem PySem.Spec PyProof.Rows
namespace RT
def obj (x:Str)(t:Tok)(i:Int):Obj:={ cls:=.type "reversed",data:=.fields #[.str x t,rawInt i] }
def Is (h:Heap)(a:Addr)(x:Str)(t:Tok)(i:Int):Prop:=∃ o,h.get? a=some o∧o.cls = .type "reversed" ∧ o.data = .fields #[.str x t,rawInt i]
section
variable {prog:Program}{w:World}{A:Around}{E:Value->Shared->Prop}{s:Shared}
end
section
variable {prog:Program}{w:World}{A:Around}{E:Value->Shared->Prop}{s:Shared}
end
end RT
section
variable {X:Cx}
end
end L2
namespace L2
open PySem PySem.Spec PyProof.Rows
section
variable {X:Cx}
end
end L2
namespace L2
open PySem PySem.Spec PyProof.Rows
set_option genInjectivity false in
structure Cam (P:Program)(w:World)(K:PySem.W.Frag)(mg:Str->Option Value)(base:Heap)(CX:CXT)(x:Str)(C:Addr)(k:Nat)(ps:List Str)(sp:Sp):Prop where
 ex:∃ (f:Addr) (fd:FuncData),cT P w K mg base CX k f fd ps sp∧Mk K C f∧mg x=some (.ref C)∧kU K fd ps []
section
variable {X:Cx}
theorem Ly {CX:CXT}{x:Str}{C:Addr}{j k:Nat}{ps:List Str}{sp:Sp}{E:XK}{e:Expr}{es:List Expr}{t:TA}{p pos:Pos}(c:Cam X.prog X.w X.K X.mg X.base CX x C j ps sp)(hr:fR k X.A)(hx:jH CX X E)(ha:PA X (e::es) t)
  (hjk:j+1<=k:=by decide) (hg:Gl X x:=by rfl) (b1:(x==("__debug__" : Str))=false:=by decide) (b2:starEach (e::es) X.env=(false,eval e X.env)::starEach es X.env:=by rfl) (b3:(backTo pos (starEach es X.env)).any (·.1)=false:=by rfl) :
  PE X (.Call (.Name x p) (e::es) [] pos) (Ju C sp [] E t):=by
 obtain ⟨f,fd,F,M,hm,hb⟩:=c.ex
 exact Ja M F (hr.mono hjk) hg hm hb .nil hx ha b1 b2 b3
end
end L2
namespace L2
open PySem PySem.Spec PyProof.Rows
section
variable {X:Cx}
theorem qM {pins:List (Addr×Obj)}{σ:St}{H:Hp}{s:Shared}{v:Value}{ls:List (List Nat)}{Q:VK}(hz:ls.length<=sizeLine)
  (hc:∀ (A':Around) (Q':List Value->Shared->Prop),A'.handled=X.A.handled->(∀ (vs:List Value) (ss:List Str) (s1:Shared),StrsAre vs ss->ss.Perm (ls.map tx)->Inv X pins σ H s1->Q' vs s1)->wpAny (model X.prog X.w) A' (collect v) Q' X.xe s)
  (q:∀ (ms:List (List Nat)) (D:Addr),H D=none->ms.Perm ls->ms.Pairwise (fun a b=>¬ b<a)->Q (.ref D) (upd H D (.lst (ms.map T)))) :
  wpAny (model X.prog X.w) X.A (call (.builtin "sorted") [v]) (EP X pins σ Q) X.xe s:=by
 refine Calls.call_function_entry kind_sorted plain_sorted entry_sorted (args_sorted1 _) ?_
 unfold Builtin.«sorted»
 refine wpAny_bind (m:=checkCount "sorted" 1 1 _) (wpAny_pure (wpAny_bind (hc _ _ (by simp) fun vs ss s1 hS hp I1=>wpAny_bind (wpAny_newList ?_ (by rw [hS.length,hp.length_eq,List.length_map];exact hz)))))
 have e2:(s1.heap.push (seqObj "list" vs.toArray 0)).get? s1.heap.objs.size=some (seqObj "list" vs.toArray 0):=Heap.get?_push_size _ rfl
 have hvl:vs.length=ls.length:=by rw [hS.length,hp.length_eq,List.length_map]
 show wpAny _ _ _ _ _ { s1 with heap:=s1.heap.push (seqObj "list" vs.toArray 0) }
 have key:∀ (out:Array Value) (ss':List Str),StrsAre out.toList ss'->ss'.Perm ss->sortedS ss'=true->EP X pins σ Q (.ref s1.heap.objs.size) { s1 with heap:=sortedHeap (s1.heap.push (seqObj "list" vs.toArray 0)) s1.heap.objs.size vs out }:=fun out ss' b1 b2 b3=>by
  obtain ⟨e,he⟩:=sortedHeap_at (out:=out) e2
  have em:(ss'.map fun x=>x.cps.toList).map tx=ss':=by
   rw [List.map_map]
   conv=>rhs;rw [<- List.map_id ss']
   exact List.map_congr_left fun x _=>iL x
  have hp':(ss'.map fun x=>x.cps.toList).Perm ls:=by
   have y:=(b2.trans hp).map fun x=>x.cps.toList
   rw [List.map_map,show (fun x=>x.cps.toList)∘tx=id from funext eJ,List.map_id] at y
   exact y
  refine ⟨.ref _,_,I1.laid (t':=s1.toks) (fun b o eo=>?_) (Nat.le_refl _) (o:=.lst ((ss'.map fun x=>x.cps.toList).map T)) ⟨?_,out.toList,e,mM b1,by simpa using he⟩,rfl,q _ _ (I1.hok.fresh (Nat.le_refl _)) hp' (qI _ (by rw [em];exact b3))⟩
  ·have hlt:=Heap.lt_size eo
   rw [sortedHeap_old (Nat.ne_of_lt hlt) (by rw [size_push'];exact Nat.lt_succ_of_lt hlt)]
   exact Heap.get?_push_of_some _ eo
  ·rw [List.length_map,hp'.length_eq]
   exact hz
 refine wpAny_bind (wpAny_holding (wpAny_call_entry slot_list_sort ⟨_,e2,rfl⟩ entry_list_sort (SR.vW e2 hS.keysOf (fun _ _ _ _=>SR.zM strKind_oneLt) (fun _ _ _ _ h2 _ q=>by rw [SR.rB hS h2];exact wpAny_pure q) (by omega) fun st' a1 a2=>⟨_,rfl,wpAny_pure ⟨_,rfl,?_⟩⟩) (args_list_sort _)))
 obtain ⟨ss',b1,b2,b3⟩:=sorted_out_str hS a1 a2
 exact key _ ss' b1 b2 b3
end
namespace SE
section
variable {prog:Program}{w:World}{A:Around}{E:Value->Shared->Prop}{s:Shared}
end
end SE
section
variable {X:Cx}
end
end L2
namespace ST
open PySem PySem.SetTable
def it (M:Nat):Nat->Nat->Nat
 | 0,i=>i
 | s+1,i=>it M s ((i*5+1) % M)
theorem tX (M:Nat):∀ s t i,it M (s+t) i=it M t (it M s i)
 | 0,t,i=>by rw [Nat.zero_add];rfl
 | s+1,t,i=>by rw [Nat.add_right_comm];exact tX M s t _
def Aa (M:Nat):Nat->Nat->List Nat
 | 0,_=>[]
 | s+1,i=>i::Aa M s ((i*5+1) % M)
theorem uK {M:Nat}:∀ {n i j:Nat},j∈Aa M n i->∃ s,s<n∧it M s i=j
 | n+1,i,j,h=>by
  rw [Aa,List.mem_cons] at h
  rcases h with h | h
  ·exact ⟨0,by omega,h.symm⟩
  ·obtain ⟨s,h1,h2⟩:=uK h
   exact ⟨s+1,by omega,h2⟩
def full (M:Nat):Bool:=it M M 0==0&&(List.range M).all fun j=>(Aa M M 0).contains j
theorem Cd {M:Nat}(h:full M=true){a j:Nat}(ha:a<M)(hj:j<M):∃ s,s<M∧it M s a=j:=by
 rw [full,Bool.and_eq_true,beq_iff_eq,List.all_eq_true] at h
 have hit:∀ x,x<M->∃ s,s<M∧it M s 0=x:=fun x hx=>uK (by have:=h.2 x (List.mem_range.mpr hx);simpa using this)
 obtain ⟨s0,h0,e0⟩:=hit a ha
 obtain ⟨s1,h1,e1⟩:=hit j hj
 rcases Nat.lt_or_ge s1 s0 with z | z
 ·refine ⟨M-s0+s1,by omega,?_⟩
  have w:it M (M-s0) a=0:=by rw [<- e0,<- tX,show s0+(M-s0)=M by omega,h.1]
  rw [tX,w,e1]
 ·refine ⟨s1-s0,by omega,?_⟩
  rw [<- e0,<- tX,show s0+(s1-s0)=s1 by omega,e1]
def pS (M:Nat):Prop:=M=8∨M=16∨M=32∨M=64∨M=128∨M=256∨M=512
theorem pS.full {M:Nat}(h:pS M):full M=true:=by
 rcases h with rfl | rfl | rfl | rfl | rfl | rfl | rfl <;> decide +kernel
theorem pS.pos {M:Nat}(h:pS M):8<=M:=by
 rcases h with rfl | rfl | rfl | rfl | rfl | rfl | rfl <;> decide
def lp (mask:Nat):Nat->Nat->Nat->Nat×Nat
 | 0,i,p=>(i,p)
 | s+1,i,p=>lp mask s (leap mask i p).1 (leap mask i p).2
theorem Dj (mask:Nat):∀ s t i p,lp mask (s+t) i p=lp mask t (lp mask s i p).1 (lp mask s i p).2
 | 0,t,i,p=>by rw [Nat.zero_add];rfl
 | s+1,t,i,p=>by rw [Nat.add_right_comm];exact Dj mask s t _ _
theorem My (mask:Nat):∀ s i p,(lp mask s i p).2=p/32 ^ s
 | 0,i,p=>by rw [Nat.pow_zero,Nat.div_one];rfl
 | s+1,i,p=>by
  show (lp mask s _ (p/32)).2=_
  rw [My mask s,Nat.div_div_eq_div_mul,Nat.pow_succ,Nat.mul_comm]
theorem Ke (mask:Nat):∀ s i,(lp mask s i 0).1=it (mask+1) s i
 | 0,i=>rfl
 | s+1,i=>by
  show (lp mask s ((i*5+1+0/32) % (mask+1)) (0/32)).1=_
  rw [Nat.zero_div,Nat.add_zero]
  exact Ke mask s _
theorem Jy (mask:Nat):∀ s i p,i<mask+1->(lp mask s i p).1<mask+1
 | 0,i,p,h=>h
 | s+1,i,p,h=>Jy mask s _ _ (Nat.mod_lt _ (Nat.succ_pos _))
theorem Bv (mask i:Nat):i<=runEnd mask i:=by
 unfold runEnd
 split <;> omega
theorem qU {mask:Nat}{owner:Array (Option Nat)}:∀ {fuel i p:Nat},layClean.free mask owner fuel i p=none->∀ s,s<fuel->(owner.getD (lp mask s i p).1 (some 0)).isNone=false
 | fuel+1,i,p,h,s,hs=>by
  rw [layClean.free] at h
  split at h
  ·cases h
  ·rename_i hf
   cases s with
   | zero =>
    have:=List.find?_eq_none.mp hf 0 (List.mem_range.mpr (by have:=Bv mask i;omega))
    rw [Nat.add_zero] at this
    exact Bool.eq_false_iff.mpr this
   | succ s=>exact qU h s (by omega)
theorem rH {mask:Nat}{owner:Array (Option Nat)}:∀ {fuel i p j:Nat},layClean.free mask owner fuel i p=some j->(owner.getD j (some 0)).isNone=true
 | fuel+1,i,p,j,h=>by
  rw [layClean.free] at h
  split at h
  ·rename_i k hf
   cases h
   have:=List.find?_some hf
   exact this
  ·exact rH h
theorem Hu {mask:Nat}{owner:Array (Option Nat)}{i p j:Nat}(hM:pS (mask+1))(hi:i<mask+1)(hp:p<2 ^ 64)(hj:j<mask+1)(he:(owner.getD j (some 0)).isNone=true) :
  ∃ k,layClean.free mask owner (turns mask) i p=some k∧(owner.getD k (some 0)).isNone=true:=by
 cases hf:layClean.free mask owner (turns mask) i p with
 | some k=>exact ⟨k,rfl,rH hf⟩
 | none =>
  exfalso
  have h13:(lp mask 13 i p).2=0:=by
   rw [My]
   exact Nat.div_eq_of_lt (Nat.lt_trans hp (by decide))
  obtain ⟨s,hs,e⟩:=Cd hM.full (Jy mask 13 i p hi) hj
  have z:=qU hf (13+s) (by unfold turns;omega)
  rw [Dj,h13,Ke,e,he] at z
  cases z
theorem oQ {α β:Type}{f g:α->Option β}:∀ l:List α,(∀ i∈l,f i=g i)->l.filterMap f=l.filterMap g
 | [],_=>rfl
 | x::l,h=>by
  have ih:=oQ l fun i hi=>h i (List.mem_cons_of_mem _ hi)
  rw [List.filterMap_cons,List.filterMap_cons,h x (List.mem_cons_self ..),ih]
def vals (N:Nat)(f:Nat->Option Nat):List Nat:=(List.range N).filterMap f
theorem Dw {f g:Nat->Option Nat}{j v:Nat}(hf:f j=none)(hg:g j=some v)(he:∀ i,i≠j->g i=f i):∀ l:List Nat,l.Nodup->j∈l->(l.filterMap g).Perm (v::l.filterMap f)
 | x::l,nd,hm=>by
  rw [List.nodup_cons] at nd
  by_cases e:x=j
  ·subst e
   rw [List.filterMap_cons_some hg,List.filterMap_cons_none hf]
   have:l.filterMap g=l.filterMap f:=oQ l fun i hi=>he i fun z=>nd.1 (z▸hi)
   rw [this]
  ·have hm':j∈l:=by
    rcases List.mem_cons.mp hm with z | z
    ·exact absurd z.symm e
    ·exact z
   have ih:=Dw hf hg he l nd.2 hm'
   have hx:=he x e
   cases h:f x with
   | none=>rw [List.filterMap_cons_none (hx.trans h),List.filterMap_cons_none h];exact ih
   | some y =>
    rw [List.filterMap_cons_some (hx.trans h),List.filterMap_cons_some h]
    exact (ih.cons y).trans (List.Perm.swap ..)
theorem yW {f:Nat->Option Nat}:∀ l:List Nat,(∀ i∈l,(f i).isNone=false)->(l.filterMap f).length=l.length
 | [],_=>rfl
 | x::l,h=>by
  have hx:=h x (List.mem_cons_self ..)
  cases e:f x with
  | none=>rw [e] at hx;cases hx
  | some y=>rw [List.filterMap_cons_some e,List.length_cons,List.length_cons,yW l fun i hi=>h i (List.mem_cons_of_mem _ hi)]
def rZ (mask:Nat)(owner:Array (Option Nat))(k:Nat):Prop:=owner.size=mask+1∧(vals (mask+1) fun j=>owner.getD j none).Perm (List.range k)
theorem getD_some {owner:Array (Option Nat)}{j:Nat}(h:j<owner.size):owner.getD j (some 0)=owner.getD j none:=by
 simp [Array.getD,h]
theorem Iz {mask:Nat}(hM:pS (mask+1)){owner:Array (Option Nat)}{k:Nat}(g:rZ mask owner k)(hk:k<mask+1)(h:Int) :
  ∃ j,layClean.free mask owner (turns mask) (bits h % (mask+1)) (bits h)=some j∧rZ mask (owner.setIfInBounds j (some k)) (k+1):=by
 obtain ⟨hs,hp⟩:=g
 obtain ⟨j0,hj0,he0⟩:∃ j,j<mask+1∧(owner.getD j (some 0)).isNone=true:=by
  apply Classical.byContradiction
  intro hno
  have:=yW (f:=fun j=>owner.getD j none) (List.range (mask+1)) fun i hi=>by
   have hi':=List.mem_range.mp hi
   have e:=getD_some (owner:=owner) (j:=i) (by omega)
   cases z:(owner.getD i none).isNone with
   | false=>rfl
   | true=>exact absurd ⟨i,hi',by rw [e];exact z⟩ hno
  rw [List.length_range] at this
  have h2:=hp.length_eq
  rw [List.length_range] at h2
  unfold vals at h2
  omega
 obtain ⟨j,e1,e2⟩:=Hu hM (i:=bits h % (mask+1)) (p:=bits h) (Nat.mod_lt _ (Nat.succ_pos _)) (by unfold bits;omega) hj0 he0
 have hj:j<owner.size:=by
  rcases Nat.lt_or_ge j owner.size with z | z
  ·exact z
  ·rw [Array.getD,dif_neg (by omega)] at e2
   cases e2
 refine ⟨j,e1,by rw [Array.size_setIfInBounds];exact hs,?_⟩
 have hf:(fun i=>owner.getD i none) j=none:=by
  show owner.getD j none=none
  rw [getD_some hj] at e2
  cases z:owner.getD j none with
  | none=>rfl
  | some y=>rw [z] at e2;cases e2
 have hg:(fun i=>(owner.setIfInBounds j (some k)).getD i none) j=some k:=by
  show (owner.setIfInBounds j (some k)).getD j none=some k
  simp [Array.getD,hj]
 have q:=Dw hf hg (fun i hi=>by
  show (owner.setIfInBounds j (some k)).getD i none=owner.getD i none
  rw [Array.getD_eq_getD_getElem?,Array.getD_eq_getD_getElem?,Array.getElem?_setIfInBounds_ne (Ne.symm hi)]) (List.range (mask+1)) List.nodup_range (List.mem_range.mpr (by omega))
 refine q.trans ?_
 rw [show List.range (k+1)=List.range k++[k] from List.range_succ]
 exact (hp.cons k).trans (List.perm_append_singleton ..).symm
theorem Do {mask:Nat}(hM:pS (mask+1)):∀ (hs:List Int) (owner:Array (Option Nat)) (k:Nat),rZ mask owner k->k+hs.length<=mask+1 ->
  ∃ o',(hs.foldl (fun acc h=>do
   let (owner,k) <- acc
   let j <- layClean.free mask owner (turns mask) (bits h % (mask+1)) (bits h)
   pure (owner.setIfInBounds j (some k),k+1)) (some (owner,k)))=some (o',k+hs.length)∧rZ mask o' (k+hs.length)
 | [],owner,k,g,_=>⟨owner,rfl,g⟩
 | h::hs,owner,k,g,hk=>by
  rw [List.length_cons] at hk
  obtain ⟨j,e,g'⟩:=Iz hM g (by omega) h
  obtain ⟨o',e',g''⟩:=Do hM hs _ _ g' (by omega)
  refine ⟨o',?_,by rw [List.length_cons,show k+(hs.length+1)=k+1+hs.length by omega];exact g''⟩
  rw [List.foldl_cons,List.length_cons,show k+(hs.length+1)=k+1+hs.length by omega,<- e']
  congr 1
  show (layClean.free mask owner (turns mask) (bits h % (mask+1)) (bits h)).bind _=_
  rw [e]
  rfl
theorem Fx (mask:Nat):rZ mask (Array.replicate (mask+1) none) 0:=by
 refine ⟨Array.size_replicate,?_⟩
 have:vals (mask+1) (fun j=>(Array.replicate (mask+1) (none:Option Nat)).getD j none)=[]:=by
  unfold vals
  refine List.filterMap_eq_nil_iff.mpr fun i _=>?_
  rw [Array.getD_eq_getD_getElem?,Array.getElem?_replicate]
  split <;> rfl
 rw [this]
 exact List.Perm.refl _
theorem yV {mask finger moves:Nat}{led plain:Bool}{hashes:Array Int}(hM:pS (mask+1))(hn:hashes.size<=mask) :
  ∃ (t:SetTable) (order:Array Nat),laid mask finger moves led plain hashes=some (t,order)∧order.toList.Perm (List.range hashes.size)∧t.place.size=hashes.size∧t.mask=mask∧t.dummies = #[]∧t.led=led∧t.plain=plain:=by
 obtain ⟨o,e,g⟩:=Do hM hashes.toList _ 0 (Fx mask) (by rw [Array.length_toList];omega)
 have hc:layClean mask hashes=some o:=by
  unfold layClean
  rw [<- Array.foldl_toList]
  refine (congrArg (Option.map (·.1)) e).trans ?_
  rfl
 have em:((List.range (mask+1)).filterMap fun j=>(o.getD j none).map (j,·)).map (·.2)=vals (mask+1) fun j=>o.getD j none:=by
  rw [List.map_filterMap]
  unfold vals
  refine oQ _ fun i _=>?_
  cases o.getD i none <;> rfl
 have gp:(vals (mask+1) fun j=>o.getD j none).Perm (List.range hashes.size):=by
  have:=g.2
  rw [Nat.zero_add,Array.length_toList] at this
  exact this
 refine ⟨_,_,by unfold laid;rw [hc];rfl,by rw [em];exact gp,?_,rfl,rfl,rfl,rfl⟩
 show (((List.range (mask+1)).filterMap fun j=>(o.getD j none).map (j,·)).map (·.1)).toArray.size=_
 have hl:=congrArg List.length em
 rw [List.length_map] at hl
 rw [List.size_toArray,List.length_map,hl,gp.length_eq,List.length_range]
end ST
namespace SS
open PySem PyProof.Rows
def byT (w:World):Bool:=w.params.followText "set-order"
def pE:Value->Str
 | .str x _=>x
 | _=>Str.empty
def El (w:World)(e:Int×Value):Prop:=e.1=hashStr w (pE e.2)∧∃ t,e.2 = .str (pE e.2) t
def Els (w:World)(es:List (Int×Value))(ms:List Str):Prop:=(∀ e∈es,El w e)∧(es.map fun e=>pE e.2).Perm ms
theorem Els.perm {w:World}{es es':List (Int×Value)}{ms:List Str}(h:Els w es ms)(p:es'.Perm es):Els w es' ms:=⟨fun e he=>h.1 e (p.mem_iff.mp he),(p.map _).trans h.2⟩
theorem Els.of {w:World}{prog:Program}{es:List (Int×Value)}{ms:List Str}(h:Els w es ms):ElemsOf (PySem.strKind prog w) es:=fun e he=>by
 obtain ⟨h1,t,h2⟩:=h.1 e he
 refine ⟨⟨pE e.2,?_,h1⟩,?_⟩
 ·rw [h2]
  exact strKind_is prog w _ t
 ·rw [h2]
  rfl
theorem Els.len {w:World}{es:List (Int×Value)}{ms:List Str}(h:Els w es ms):es.length=ms.length:=by
 have:=h.2.length_eq
 rwa [List.length_map] at this
theorem Els.has {w:World}{prog:Program}{es:List (Int×Value)}{ms:List Str}(h:Els w es ms)(k:Str):k∈ms↔∃ e∈es,(PySem.strKind prog w).is k e.2=true:=by
 rw [<- h.2.mem_iff,List.mem_map]
 constructor
 ·rintro ⟨e,he,rfl⟩
  obtain ⟨_,t,h2⟩:=h.1 e he
  refine ⟨e,he,?_⟩
  conv=>lhs;arg 3;rw [h2]
  exact strKind_is prog w _ t
 ·rintro ⟨e,he,hk⟩
  obtain ⟨t,ht⟩:=Value.isStrOf_shape hk
  exact ⟨e,he,by rw [ht];rfl⟩
def Is (w:World)(h:Heap)(a:Addr)(ms:List Str):Prop :=
 ∃ o es ep t,h.get? a=some o∧o.ExactSet∧o.data = .set es ep t∧Els w es.toList ms∧ms.Nodup∧es.size<scanBound∧t.fits es.size=true∧(byT w=true∨t.led=true)∧(es.size=0∨t.plain=false)
theorem Is.at {w:World}{h h':Heap}{a:Addr}{ms:List Str}(x:Is w h a ms)(e:∀ o,h.get? a=some o->h'.get? a=some o):Is w h' a ms:=let ⟨o,es,ep,t,ho,r⟩:=x;⟨o,es,ep,t,e o ho,r⟩
theorem Is.there {w:World}{h:Heap}{a:Addr}{ms:List Str}(x:Is w h a ms):∃ o,h.get? a=some o:=let ⟨o,_,_,_,ho,_⟩:=x;⟨o,ho⟩
theorem yH (t:SetTable)(es:Array (Int×Value))(h:Int)(x:Value):(layNew t es h x).2.1.led=t.led:=by
 unfold layNew
 split
 ·rename_i slot wd _
  show ((t.put slot).1.orStandIn _).led=t.led
  unfold SetTable.orStandIn
  split <;> rfl
 ·rfl
theorem xS {mask finger moves:Nat}{led plain:Bool}{hs:Array Int}{t:SetTable}{o:Array Nat}(h:SetTable.laid mask finger moves led plain hs=some (t,o)):t.led=led∧t.plain=plain:=by
 unfold SetTable.laid at h
 cases hc:SetTable.layClean mask hs with
 | none=>rw [hc] at h;cases h
 | some ow =>
  rw [hc] at h
  have h':=Option.some.inj h
  rw [<- (Prod.mk.inj h').1]
  exact ⟨rfl,rfl⟩
theorem oZ (t:SetTable)(es:Array (Int×Value))(n:Nat)(hp:t.plain=false):(relayAll t es n).2.1.led=t.led∧(relayAll t es n).2.1.plain=false:=by
 unfold relayAll
 split
 ·rename_i t' order e
  obtain ⟨h1,h2⟩:=xS e
  dsimp only
  split
  ·exact ⟨h1,h2.trans hp⟩
  ·exact ⟨rfl,rfl⟩
 ·exact ⟨rfl,rfl⟩
section
variable {prog:Program}{w:World}{A:Around}{E:Value->Shared->Prop}{s:Shared}
theorem Is.store (prog:Program){a:Addr}{o:Obj}{es es':Array (Int×Value)}{ep:Nat}{t t':SetTable}{h:Heap}{ms:List Str}(ho:h.get? a=some o)(hex:o.ExactSet)(hd:o.data = .set es ep t)(hel:Els w es'.toList ms)(hnd:ms.Nodup)(hb:es'.size<scanBound)(hf:t'.fits es'.size=true)
  (hl:byT w=true∨t'.led=true) (hp:es'.size=0∨t'.plain=false):(h.update a (Obj.putSet es' t')).get? a=some { o with data:=.set es' (ep+1) t' }∧Is w (h.update a (Obj.putSet es' t')) a ms:=by
 have hg:=(SetOf_store (knd:=PySem.strKind prog w) (S':=fun k=>decide (k∈ms)) ho hex hd hel.of (fun k=>by rw [decide_eq_true_iff];exact hel.has k) hb hf).1
 exact ⟨hg,_,es',ep+1,t',hg,hex,rfl,hel,hnd,hb,hf,hl,hp⟩
theorem Ex {a : Addr} {ms : List Str} {k : Str} {tk : Tok} {Q : Bool → Shared → Prop} (hS : Is w s.heap a ms) (hroom : ms.length + 1 < scanBound)
    (h : ∀ h' ms', Heap.SameBut a s.heap h' → Is w h' a ms' → (∀ x, x ∈ ms' ↔ x ∈ ms ∨ x = k) → ms'.length ≤ ms.length + 1 → Q (!decide (k ∈ ms)) { s with heap := h' }) :
    wpAny (model prog w) A (setAddHashed a (.str k tk) (hashStr w k)) Q E s := by
  obtain ⟨o, es, ep, t, ho, hex, hd, hel, hnd, hb, hf, hl, hp⟩ := hS
  have hn : es.size = ms.length := by rw [← hel.len, Array.length_toList]
  have hkey : (PySem.strKind prog w).is k (.str k tk) = true := strKind_is prog w k tk
  unfold setAddHashed setAddHashedIn
  refine wpAny_holding (wpAny_bind (wpAny_setState_of ho hd hf ?_))
  dsimp only
  rw [byScan_of (knd := PySem.strKind prog w) (x := .str k tk) rfl hb hel.of]
  simp only [↓reduceIte]
  unfold setAddByScan
  refine wpAny_bind (wpAny_bind (wpAny_rule (wpAny_bind (wpAny_setScan_of (knd := PySem.strKind prog w) hkey ho hd hf hel.of ?_))))
  cases hr : List.findIdx? (fun e => (PySem.strKind prog w).is k e.2) es.toList with
  | some j =>
    dsimp only
    obtain ⟨hj, hpj, _⟩ := List.findIdx?_eq_some_iff_getElem.mp hr
    have hm : k ∈ ms := (hel.has (prog := prog) k).mpr ⟨es.toList[j], List.getElem_mem hj, hpj⟩
    refine wpAny_pure (wpAny_pure ?_)
    have z := h s.heap ms (Heap.SameBut.refl a s.heap) ⟨o, es, ep, t, ho, hex, hd, hel, hnd, hb, hf, hl, hp⟩ (fun x => ⟨.inl, fun q => q.elim id fun e => e ▸ hm⟩) (by omega)
    rw [decide_eq_true hm] at z
    exact z
  | none =>
    dsimp only
    have hm : ¬ k ∈ ms := fun z => by
      obtain ⟨e, he, q⟩ := (hel.has (prog := prog) k).mp z
      have := List.findIdx?_eq_none_iff.mp hr e he
      rw [q] at this
      cases this
    have gw : ∀ (b : Bool) {s₁ : Shared} {Q' : Unit → Shared → Prop}, Q' () s₁ → wpAny (model prog w) A (match b with | true => rule "set.scan.the-table-gave-way" | false => pure ()) Q' E s₁ := fun b s₁ Q' hq => by
      cases b
      · exact wpAny_pure hq
      · exact wpAny_rule hq
    have hperm := layNew_perm t es (hashStr w k) (.str k tk)
    have hfits := layNew_fits t es (hashStr w k) (.str k tk)
    have hled := yH t es (hashStr w k) (.str k tk)
    generalize hL : layNew t es (hashStr w k) (.str k tk) = L at hperm hfits hled ⊢
    obtain ⟨es1, t1, wasDummy, gave⟩ := L
    dsimp only at hperm hfits hled ⊢
    rw [Array.toList_push] at hperm
    have hel1 : Els w es1.toList (ms ++ [k]) := by
      refine Els.perm ⟨fun e he => ?_, ?_⟩ hperm
      · rcases List.mem_append.mp he with z | z
        · exact hel.1 e z
        · have e' : e = (hashStr w k, .str k tk) := by simpa using z
          rw [e']
          exact ⟨rfl, tk, rfl⟩
      · rw [List.map_append]
        exact hel.2.append_right _
    have hnd1 : (ms ++ [k]).Nodup := List.nodup_append.mpr ⟨hnd, by simp, fun x hx y hy e => hm (by have : y = k := by simpa using hy
                                                                                                    rw [← this, ← e]; exact hx)⟩
    have hsz1 : es1.size = ms.length + 1 := by rw [← Array.length_toList, hel1.len, List.length_append, List.length_singleton]
    have hb1 : es1.size < scanBound := by omega
    have fin : ∀ h', Heap.SameBut a s.heap h' → Is w h' a (ms ++ [k]) → Q true { s with heap := h' } := fun h' sb x => by
      have z := h h' (ms ++ [k]) sb x (fun y => by rw [List.mem_append, List.mem_singleton]) (by rw [List.length_append, List.length_singleton]; omega)
      rw [decide_eq_false hm] at z
      exact z
    have tail : ∀ t2 : SetTable, t2.fits es1.size = true → (byT w = true ∨ t2.led = true) → t2.plain = false → wpAny (model prog w) A (do
        storeSet a es1 t2
        if (!wasDummy && t2.tooFull) = true then do
            (match (relayAll t2 es1 (SetTable.grown es1.size)).2.2 with | true => rule "set.scan.the-table-gave-way" | false => pure ())
            storeSet a (relayAll t2 es1 (SetTable.grown es1.size)).1 (relayAll t2 es1 (SetTable.grown es1.size)).2.1
            pure (some true)
          else pure (some true)) (fun r s' => wpAny (model prog w) A (match r with | some added => pure added | none => setAddHashedIn a (.str k tk) (hashStr w k) 99999) Q E s') E s := fun t2 hf2 hl2 hp2 => by
      refine wpAny_bind (wpAny_storeSet_of ho hd ?_ (fits_of_scanBound hb1))
      obtain ⟨ho1, hS1⟩ := Is.store prog ho hex hd hel1 hnd1 hb1 hf2 hl2 (.inr hp2)
      have sb1 := Heap.SameBut.update s.heap a (Obj.putSet es1 t2)
      split
      · have q1 := relayAll_perm t2 es1 (SetTable.grown es1.size)
        have q2 := relayAll_fits t2 es1 (SetTable.grown es1.size)
        have q3 := oZ t2 es1 (SetTable.grown es1.size) hp2
        generalize relayAll t2 es1 (SetTable.grown es1.size) = Rl at q1 q2 q3 ⊢
        obtain ⟨es2, t3, g2⟩ := Rl
        dsimp only at q1 q2 q3 ⊢
        have hel2 := hel1.perm q1
        have hsz : es2.size = es1.size := by rw [← Array.length_toList, q1.length_eq, Array.length_toList]
        have hb2 : es2.size < scanBound := by omega
        refine wpAny_bind (gw _ (wpAny_bind (wpAny_storeSet_of ho1 rfl ?_ (fits_of_scanBound hb2))))
        obtain ⟨_, hS2⟩ := Is.store prog ho1 hex rfl hel2 hnd1 hb2 q2 (hl2.imp id fun z => q3.1.trans z) (.inr q3.2)
        exact wpAny_pure (wpAny_pure (fin _ (sb1.trans (Heap.SameBut.update _ a _)) hS2))
      · exact wpAny_pure (wpAny_pure (fin _ sb1 hS1))
    refine wpAny_bind (gw _ ?_)
    have hl1 : byT w = true ∨ t1.led = true := hl.imp id fun z => hled.trans z
    split
    · refine wpAny_bind (wpAny_pure ?_)
      simp only [Bool.false_eq_true, ↓reduceIte]
      exact tail { t1 with plain := false } (SetTable.fits_plain_off hfits) hl1 rfl
    · rename_i hpl
      refine wpAny_bind (wpAny_pure ?_)
      simp only [↓reduceIte]
      exact tail t1 hfits hl1 (Bool.eq_false_iff.mpr hpl)
end
end SS
namespace SS
open PySem PyProof.Rows
theorem pM:∀ n,n<=256->ST.pS (SetTable.sizeAbove n)∧n<SetTable.sizeAbove n:=by
 have key:∀ n,n<257->(SetTable.sizeAbove n=8∨SetTable.sizeAbove n=16∨SetTable.sizeAbove n=32∨SetTable.sizeAbove n=64∨SetTable.sizeAbove n=128∨SetTable.sizeAbove n=256∨SetTable.sizeAbove n=512)∧n<SetTable.sizeAbove n:=by decide +kernel
 exact fun n h=>key n (by omega)
theorem kQ {es:Array (Int×Value)}{order:Array Nat}(h:order.toList.Perm (List.range es.size)):(order.filterMap (es[·]?)).toList.Perm es.toList:=by
 rw [Array.toList_filterMap]
 exact (h.filterMap _).trans (by rw [filterMap_getElem?_range])
theorem kG {α:Type}:∀ (l:List α) (i:Nat) (h:i<l.length),(l[i]::l.eraseIdx i).Perm l
 | x::l,0,_=>List.Perm.refl _
 | x::l,i+1,h=>by
  have h':i<l.length:=by simpa using h
  have ih:=kG l i h'
  exact (List.Perm.swap x (l[i]'h') (l.eraseIdx i)).trans (ih.cons x)
theorem qG {α:Type}(next:Nat->Nat)(xs:Array α):(pickOrder next xs).toList.Perm xs.toList:=by
 have key:∀ (fuel k:Nat) (left:List α) (out:Array α),left.length=fuel->(pickOrder.go next fuel k left out).toList.Perm (out.toList++left):=by
  intro fuel
  induction fuel with
  | zero =>
   intro k left out hl
   obtain rfl:=List.length_eq_zero_iff.mp hl
   rw [pickOrder.go,List.append_nil]
  | succ fuel ih =>
   intro k left out hl
   have hlt:next k % left.length<left.length:=Nat.mod_lt _ (by omega)
   rw [pickOrder.go,List.getElem?_eq_getElem hlt]
   dsimp only
   refine (ih _ _ _ (by rw [List.length_eraseIdx_of_lt hlt];omega)).trans ?_
   rw [Array.toList_push,List.append_assoc]
   refine List.Perm.append_left _ ?_
   exact kG left _ hlt
 have z:=key xs.size 0 xs.toList #[] (Array.length_toList)
 simpa [pickOrder] using z
section
variable {prog:Program}{w:World}{A:Around}{E:Value->Shared->Prop}{s:Shared}
theorem fJ {Q:Bool->Shared->Prop}(h:Q (byT w) s):wpAny (model prog w) A setsByText Q E s:=by
 unfold setsByText
 exact wpAny_bind (wpAny_askSetting (wpAny_pure h))
theorem vD {a:Addr}{ms:List Str}{n:Nat}{Q:Unit->Shared->Prop}{o:Obj}{es:Array (Int×Value)}{ep:Nat}{t:SetTable}(ho:s.heap.get? a=some o)(hd:o.data = .set es ep t)(hf:t.fits es.size=true)(hn:n<=256)(hm:es.size<=n)
  (h:∀ (es':Array (Int×Value)) (t':SetTable),es'.toList.Perm es.toList->t'.place.size=es.size->t'.mask+1=SetTable.sizeAbove n->t'.dummies = #[]->t'.led=t.led->t'.plain=t.plain->Q () { s with heap:=s.heap.update a (Obj.putSet es' t') }) :
  wpAny (model prog w) A (setRelay a n) Q E s:=by
 obtain ⟨hM,hlt⟩:=pM n hn
 have h8:=hM.pos
 unfold setRelay
 refine wpAny_bind (wpAny_setState_of ho hd hf ?_)
 dsimp only
 have hs:sizeLine=16777216:=sizeLine_eq
 have hsl:¬ SetTable.sizeAbove n>sizeLine:=by
  rcases hM with e | e | e | e | e | e | e <;> omega
 rw [if_neg hsl]
 obtain ⟨t',order,e1,e2,e3,e4,e5,e6,e7⟩:=ST.yV (mask:=SetTable.sizeAbove n-1) (finger:=t.finger) (moves:=t.movedTo (SetTable.sizeAbove n-1)) (led:=t.led) (plain:=t.plain) (hashes:=es.map (·.1)) (by rw [Nat.sub_add_cancel (by omega)];exact hM) (by rw [Array.size_map];omega)
 have e1':t.relaid (es.map (·.1)) n=some (t',order):=e1
 rw [e1']
 rw [Array.size_map] at e2 e3
 have hp:=kQ e2
 have hsz:(order.filterMap (es[·]?)).size=es.size:=by rw [<- Array.length_toList,hp.length_eq,Array.length_toList]
 refine wpAny_bind (m:=(do
  if ((order.filterMap (es[·]?)).size != es.size)=true then unsupported "internal:set-table-lost-an-element"
  pure (order.filterMap (es[·]?),t'))) ?_
 rw [hsz,bne_self_eq_false,if_neg Bool.false_ne_true]
 refine wpAny_pure ?_
 exact wpAny_storeSet_of ho hd (h _ _ hp e3 (by rw [e4];omega) e5 e6 e7) (by rw [hsz];omega)
theorem Dm {a b:Addr}{ms ms':List Str}{Q:Bool->Shared->Prop}(h1:Is w s.heap a ms)(h2:Is w s.heap b ms')(h:Q true s):wpAny (model prog w) A (setsQuiet [a,b]) Q E s:=by
 unfold setsQuiet
 refine wpAny_bind ?_
 refine wpAny_forIn_list _ (fun rest r s'=>r=(none,())∧s'=s∧∀ c∈rest,∃ ks,Is w s.heap c ks) _ ?_ ?_ _ _ ⟨rfl,rfl,fun c hc=>?_⟩
 ·rintro c rest r s' ⟨rfl,rfl,hall⟩
  obtain ⟨ks,hc⟩:=hall c (List.mem_cons_self ..)
  obtain ⟨o,es,ep,t,ho,hex,hd,hel,hnd,hb,hf,_⟩:=hc
  refine wpAny_bind (wpAny_setEntries_of ho hd hf (wpAny_bind ?_))
  rw [<- Array.forIn_toList]
  refine wpAny_forIn_list _ (fun rest r s2=>r=(none,())∧s2=s'∧∀ e∈rest,El w e) _ ?_ ?_ _ _ ⟨rfl,rfl,hel.1⟩
  ·rintro ⟨hh,x⟩ rest2 r s2 ⟨rfl,rfl,hall2⟩
   obtain ⟨_,tk,e⟩:=hall2 _ (List.mem_cons_self ..)
   dsimp only at e ⊢
   rw [e]
   exact wpAny_pure ⟨rfl,rfl,fun u hu=>hall2 u (List.mem_cons_of_mem _ hu)⟩
  ·rintro r s2 ⟨rfl,rfl,_⟩
   exact wpAny_pure ⟨rfl,rfl,fun u hu=>hall u (List.mem_cons_of_mem _ hu)⟩
 ·rintro r s' ⟨rfl,rfl,_⟩
  exact wpAny_pure h
 ·rcases List.mem_cons.mp hc with rfl | hc
  ·exact ⟨ms,h1⟩
  ·rcases List.mem_cons.mp hc with rfl | hc
   ·exact ⟨ms',h2⟩
   ·cases hc
theorem Ow {a b:Addr}{ms1 ms2:List Str}{Q:Array (Int×Value)->Shared->Prop}(h1:Is w s.heap a ms1)(hne:ms1≠[])(h2:Is w s.heap b ms2)(h:∀ es:Array (Int×Value),Els w es.toList ms2->Q es s) :
  wpAny (model prog w) A (setWalkUnseen b [a] (some a)) Q E s:=by
 obtain ⟨o,es,ep,t,ho,hex,hd,hel,hnd,hb,hf,hl,hp⟩:=id h2
 unfold setWalkUnseen
 refine wpAny_bind (wpAny_setState_of ho hd hf ?_)
 dsimp only
 refine wpAny_bind (fJ ?_)
 have walk:∀ Q':Array (Int×Value)->Shared->Prop,(byT w=true∨es.size<=1)->(∀ es':Array (Int×Value),Els w es'.toList ms2->Q' es' s)->wpAny (model prog w) A (setWalk b) Q' E s:=fun Q' hc hQ=>by
  unfold setWalk
  refine wpAny_bind (wpAny_setState_of ho hd hf ?_)
  dsimp only
  refine wpAny_bind (fJ ?_)
  by_cases hby:byT w=true
  ·rw [if_pos hby]
   refine wpAny_bind (wpAny_askSetting (wpAny_pure (hQ _ (hel.perm (qG _ _)))))
  ·rw [if_neg hby]
   have h1:es.size<=1:=hc.resolve_left hby
   have hdr:(!t.plain&&decide (es.size>1))=false:=by
    rw [decide_eq_false (by omega),Bool.and_false]
   have hml:(!t.led&&decide (es.size>1))=false:=by
    rw [decide_eq_false (by omega),Bool.and_false]
   show wpAny _ _ (if (!t.plain&&decide (es.size>1))=true then _ else _) _ _ s
   rw [hdr,if_neg Bool.false_ne_true]
   refine wpAny_bind (m:=if (!t.led&&decide (es.size>1))=true then unsupported "set:maker-not-led" else pure ()) ?_
   rw [hml,if_neg Bool.false_ne_true]
   exact wpAny_pure (wpAny_pure (hQ _ hel))
 by_cases hc:byT w=true∨es.size<=1
 ·have e:(byT w||(t.led&&t.plain)||decide (es.size<=1))=true:=by
   rcases hc with z | z
   ·rw [z];simp
   ·rw [decide_eq_true z];simp
  rw [e,if_pos rfl]
  exact walk _ hc h
 ·have hby:byT w=false:=Bool.eq_false_iff.mpr fun z=>hc (.inl z)
  have hs1:¬ es.size<=1:=fun z=>hc (.inr z)
  have hpl:t.plain=false:=hp.resolve_left (by omega)
  have hld:t.led=true:=hl.resolve_left (by rw [hby];exact Bool.false_ne_true)
  have e:(byT w||(t.led&&t.plain)||decide (es.size<=1))=false:=by
   rw [hby,hpl,decide_eq_false hs1];simp
  rw [e,if_neg Bool.false_ne_true]
  refine wpAny_bind (Dm h2 h1 ?_)
  simp only [Bool.not_true,Bool.false_eq_true,↓reduceIte]
  refine wpAny_bind (wpAny_rule ?_)
  obtain ⟨o1,es1,ep1,t1,ho1,hex1,hd1,hel1,hnd1,hb1,hf1,hl1,hp1⟩:=id h1
  refine wpAny_bind (wpAny_setState_of ho1 hd1 hf1 ?_)
  dsimp only
  have hs0:es1.size≠0:=fun z=>hne (List.length_eq_zero_iff.mp (by rw [<- hel1.len,Array.length_toList];exact z))
  have hpl1:t1.plain=false:=hp1.resolve_left hs0
  have hc2:(t1.led && !t.led||t1.plain && !t.plain)=false:=by
   rw [hld,hpl1];simp
  rw [hc2,if_neg Bool.false_ne_true]
  exact wpAny_pure (h es hel)
theorem Ho {a:Addr}{ms:List Str}{m:Nat}{Q:Unit->Shared->Prop}(hS:Is w s.heap a ms)(hm:ms.length+m<=128)(h:∀ h',Heap.SameBut a s.heap h'->Is w h' a ms->Q () { s with heap:=h' }):wpAny (model prog w) A (setRoomFor a m) Q E s:=by
 obtain ⟨o,es,ep,t,ho,hex,hd,hel,hnd,hb,hf,hl,hp⟩:=id hS
 have hn:es.size=ms.length:=by rw [<- hel.len,Array.length_toList]
 have hpsz:t.place.size=es.size:=by
  simp only [SetTable.fits,Bool.and_eq_true,beq_iff_eq] at hf
  exact hf.1
 unfold setRoomFor
 refine wpAny_bind (wpAny_setState_of ho hd hf ?_)
 dsimp only
 unfold SetTable.roomFor
 by_cases hc:(t.fill+m)*5≥t.mask*3
 ·rw [if_pos hc]
  refine vD (ms:=ms) ho hd hf (by omega) (by omega) fun es' t' p1 p2 p3 p4 p5 p6=>?_
  have hsz:es'.size=es.size:=by rw [<- Array.length_toList,p1.length_eq,Array.length_toList]
  have h8:=(pM ((t.place.size+m)*2) (by omega)).2
  have hf':t'.fits es'.size=true:=by
   simp only [SetTable.fits,Bool.and_eq_true,beq_iff_eq,decide_eq_true_eq,SetTable.fill,p4]
   exact ⟨by omega,by show t'.place.size+0<=t'.mask;omega⟩
  exact h _ (Heap.SameBut.update _ a _) (Is.store prog ho hex hd (hel.perm p1) hnd (by omega) hf' (hl.imp id fun z=>p5.trans z) (hp.imp (fun z=>by omega) fun z=>p6.trans z)).2
 ·rw [if_neg hc]
  exact wpAny_pure (h s.heap (Heap.SameBut.refl a _) hS)
theorem Cu {a b:Addr}{ms1 ms2:List Str}{each:Sem Unit}{Q:Unit->Shared->Prop}(hab:a≠b)(h1:Is w s.heap a ms1)(h2:Is w s.heap b ms2)(hne:ms1≠[])(hsz:ms1.length+ms2.length<=128)
  (heach:∀ (s':Shared) (Q':Unit->Shared->Prop),(∀ o,s.heap.get? b=some o->s'.heap.get? b=some o)->Q' () s'->wpAny (model prog w) A each Q' E s')
  (h:∀ h' ms',Heap.SameBut a s.heap h'->Is w h' a ms'->(∀ x,x∈ms'↔x∈ms1∨x∈ms2)->ms'.length<=ms1.length+ms2.length->Q () { s with heap:=h' }):wpAny (model prog w) A (setMerge a b each) Q E s:=by
 obtain ⟨o,es,ep,t,ho,hex,hd,hel,hnd,hb,hf,hl,hp⟩:=id h2
 have hn:es.size=ms2.length:=by rw [<- hel.len,Array.length_toList]
 unfold setMerge
 rw [if_neg (show ¬ ((a==b)=true) by rw [beq_iff_eq];exact hab)]
 refine wpAny_bind (wpAny_setState_of ho hd hf ?_)
 dsimp only
 by_cases h0:es.isEmpty=true
 ·rw [if_pos h0]
  have e0:ms2=[]:=List.length_eq_zero_iff.mp (by rw [<- hn];simpa using h0)
  exact wpAny_pure (h s.heap ms1 (Heap.SameBut.refl a _) h1 (fun x=>by rw [e0];simp) (by omega))
 rw [if_neg h0]
 refine wpAny_bind (Ho h1 (by omega) fun h3 sb3 i3=>?_)
 have hb3:h3.get? b=some o:=(sb3.2 b (Ne.symm hab)).trans ho
 have h2':Is w h3 b ms2:=⟨o,es,ep,t,hb3,hex,hd,hel,hnd,hb,hf,hl,hp⟩
 obtain ⟨o3,es3,ep3,t3,ho3,hex3,hd3,hel3,hnd3,hb3',hf3,hl3,hp3⟩:=id i3
 refine wpAny_bind (wpAny_setState_of (s:={ s with heap:=h3 }) ho3 hd3 hf3 ?_)
 dsimp only
 have hroad:t3.road t = .oneByOne:=by
  unfold SetTable.road
  have hp:t3.place.size=es3.size:=by
   simp only [SetTable.fits,Bool.and_eq_true,beq_iff_eq] at hf3
   exact hf3.1
  have hpos:0<es3.size:=by
   rw [<- Array.length_toList,hel3.len]
   exact List.length_pos_iff.mpr hne
  rw [if_pos]
  rw [bne_iff_ne]
  unfold SetTable.fill
  omega
 rw [hroad]
 dsimp only
 refine wpAny_bind (Ow (s:={ s with heap:=h3 }) i3 hne h2' fun es4 hel4=>wpAny_bind ?_)
 rw [<- Array.forIn_toList]
 refine wpAny_forIn_list _ (fun rest _ s'=>∃ dn ms',es4.toList=dn++rest∧s' = { s with heap:=s'.heap }∧Heap.SameBut a s.heap s'.heap∧Is w s'.heap a ms'∧(∀ x,x∈ms'↔x∈ms1∨∃ e∈dn,x=pE e.2)∧ms'.length<=ms1.length+dn.length) _ ?_ ?_ _ _ ⟨[],ms1,rfl,rfl,sb3,i3,fun x=>by simp,by simp⟩
 ·rintro ⟨hh,x⟩ rest u s' ⟨dn,ms',e1,e2,sb,i4,hm,hle⟩
  obtain ⟨q1,tk,q2⟩:=hel4.1 (hh,x) (by rw [e1];simp)
  dsimp only at q1 q2 ⊢
  have hlen:dn.length+(rest.length+1)=ms2.length:=by
   have:=congrArg List.length e1
   rw [hel4.len,List.length_append,List.length_cons] at this
   omega
  rw [q2,q1]
  have sb128:scanBound=4096:=rfl
  refine wpAny_bind (wpAny_holding (Ex (s:=s') i4 (by omega) fun h5 ms5 sb5 i5 hm5 hl5=>?_))
  have hb5:h5.get? b=some o:=(sb5.2 b (Ne.symm hab)).trans ((sb.2 b (Ne.symm hab)).trans ho)
  refine wpAny_bind (heach _ _ (fun o' z=>?_) ?_)
  ·rw [ho] at z
   cases z
   exact hb5
  ·refine wpAny_bind (wpAny_setState_of (s:={ s' with heap:=h5 }) hb5 hd hf ?_)
   dsimp only
   rw [bne_self_eq_false,if_neg Bool.false_ne_true]
   refine wpAny_pure ⟨dn++[(hh,x)],ms5,by rw [e1,List.append_assoc];rfl,by rw [e2],sb.trans sb5,i5,fun y=>?_,by rw [List.length_append,List.length_singleton];omega⟩
   rw [hm5,hm]
   constructor
   ·rintro ((z | ⟨e,he,rfl⟩) | rfl)
    ·exact .inl z
    ·exact .inr ⟨e,List.mem_append_left _ he,rfl⟩
    ·exact .inr ⟨(hh,x),by simp,rfl⟩
   ·rintro (z | ⟨e,he,rfl⟩)
    ·exact .inl (.inl z)
    ·rcases List.mem_append.mp he with z | z
     ·exact .inl (.inr ⟨e,z,rfl⟩)
     ·have:e=(hh,x):=by simpa using z
      subst this
      exact .inr rfl
 ·rintro u s' ⟨dn,ms',e1,e2,sb,i4,hm,hle⟩
  rw [List.append_nil] at e1
  rw [e2]
  refine wpAny_pure (h _ ms' sb i4 (fun x=>?_) ?_)
  ·rw [hm,<- e1,<- hel4.2.mem_iff,List.mem_map]
   exact or_congr Iff.rfl ⟨fun ⟨e,he,z⟩=>⟨e,he,z.symm⟩,fun ⟨e,he,z⟩=>⟨e,he,z.symm⟩⟩
  ·have:=congrArg List.length e1
   rw [hel4.len] at this
   omega
end
end SS
namespace SS
open PySem PyProof.Rows
section
variable {prog:Program}{w:World}{A:Around}{E:Value->Shared->Prop}{s:Shared}
def dE (w:World):Obj:={ cls:=.type "set",dict:=none,data:=.set #[] 0 (.fresh 0 0 (!byT w)) }
theorem Kw {Q:Value->Shared->Prop}(h:Q (.ref s.heap.objs.size) { s with heap:=s.heap.push (dE w) }):wpAny (model prog w) A (newSet (.type "set")) Q E s:=by
 unfold newSet
 refine wpAny_bind (fJ ?_)
 dsimp only
 simp only [newObj]
 exact wpAny_bind (wpAny_alloc (wpAny_pure h))
theorem Is.fresh (h:Heap):Is w (h.push (dE w)) h.objs.size []:=by
 refine ⟨dE w,#[],0,.fresh 0 0 (!byT w),Heap.get?_push_size _ rfl,⟨rfl,rfl,rfl⟩,rfl,⟨fun e he=>by simp at he,by simp⟩,List.nodup_nil,by decide,rfl,?_,.inl rfl⟩
 cases byT w
 ·exact .inr rfl
 ·exact .inl rfl
theorem Ez {a:Addr}{n:Nat}{Q:Unit->Shared->Prop}(ho1:s.heap.get? a=some (dE w))(hn:n<=128)
  (h:∀ (h3:Heap) (o3:Obj) (ep3:Nat) (t3:SetTable),Heap.SameBut a s.heap h3->h3.get? a=some o3->o3.ExactSet->o3.data = .set #[] ep3 t3->t3.place.size=0->t3.dummies = #[]->ST.pS (t3.mask+1)->n<=t3.mask->(byT w=true∨t3.led=true)->Q () { s with heap:=h3 }) :
  wpAny (model prog w) A (setRoomFor a n) Q E s:=by
 have hled:byT w=true∨(!byT w)=true:=by cases byT w <;> simp
 unfold setRoomFor
 refine wpAny_bind (wpAny_setState_of ho1 rfl rfl ?_)
 dsimp only
 unfold SetTable.roomFor
 by_cases hc:((SetTable.fresh 0 0 (!byT w)).fill+n)*5≥(SetTable.fresh 0 0 (!byT w)).mask*3
 ·rw [if_pos hc]
  refine vD (ms:=[]) ho1 rfl rfl (by show (0+n)*2<=256;omega) (Nat.zero_le _) fun es' t' p1 p2 p3 p4 p5 p6=>?_
  obtain rfl:es' = #[]:=by
   have:=p1.length_eq
   rw [Array.length_toList] at this
   exact Array.eq_empty_of_size_eq_zero this
  obtain ⟨hM,hlt⟩:=pM ((0+n)*2) (by omega)
  have p3':t'.mask+1=SetTable.sizeAbove ((0+n)*2):=p3
  have hg:(s.heap.update a (Obj.putSet #[] t')).get? a=some { dE w with data:=.set #[] (0+1) t' }:=by
   have:=Heap.get?_update_self (Obj.putSet #[] t') ho1 (by rw [putSet_of (o:=dE w) #[] t' rfl];rfl)
   rw [putSet_of (o:=dE w) #[] t' rfl] at this
   exact this
  exact h _ _ 1 t' (Heap.SameBut.update _ a _) hg ⟨rfl,rfl,rfl⟩ rfl p2 p4 (by rw [p3'];exact hM) (by omega) (hled.imp id fun z=>p5.trans z)
 ·rw [if_neg hc]
  have hc':¬ (0+n)*5≥7*3:=hc
  exact wpAny_pure (h s.heap (dE w) 0 _ (Heap.SameBut.refl a _) ho1 ⟨rfl,rfl,rfl⟩ rfl rfl rfl (.inl rfl) (by show n<=7;omega) hled)
theorem Ao {a b:Addr}{ms:List Str}{Q:Unit->Shared->Prop}(hab:a≠b)(ho1:s.heap.get? a=some (dE w))(h2:Is w s.heap b ms)(hsz:ms.length<=128)
  (h:∀ h',Heap.SameBut a s.heap h'->Is w h' a ms->Q () { s with heap:=h' }):wpAny (model prog w) A (setMerge a b) Q E s:=by
 obtain ⟨o,es,ep,t,ho,hex,hd,hel,hnd,hb,hf,hl,hp⟩:=id h2
 have hn:es.size=ms.length:=by rw [<- hel.len,Array.length_toList]
 have hled:byT w=true∨(!byT w)=true:=by cases byT w <;> simp
 unfold setMerge
 rw [if_neg (show ¬ ((a==b)=true) by rw [beq_iff_eq];exact hab)]
 refine wpAny_bind (wpAny_setState_of ho hd hf ?_)
 dsimp only
 by_cases h0:es.isEmpty=true
 ·rw [if_pos h0]
  have e0:ms=[]:=List.length_eq_zero_iff.mp (by rw [<- hn];simpa using h0)
  subst e0
  exact wpAny_pure (h s.heap (Heap.SameBut.refl a _) ⟨dE w,#[],0,.fresh 0 0 (!byT w),ho1,⟨rfl,rfl,rfl⟩,rfl,⟨fun e he=>by simp at he,by simp⟩,List.nodup_nil,by decide,rfl,hled,.inl rfl⟩)
 rw [if_neg h0]
 have hpos:0<es.size:=by
  rcases Nat.eq_zero_or_pos es.size with z | z
  ·exact absurd (by simpa using z) h0
  ·exact z
 have hpl:t.plain=false:=hp.resolve_left (by omega)
 refine wpAny_bind (Ez ho1 (by omega) fun h3 o3 ep3 t3 sb3 ho3 hex3 hd3 hps hdu hM hle hld3=>?_)
 have hf3:t3.fits (#[]:Array (Int×Value)).size=true:=by
  simp only [SetTable.fits,Bool.and_eq_true,beq_iff_eq,decide_eq_true_eq,SetTable.fill,hdu]
  exact ⟨hps,by show t3.place.size+0<=t3.mask;omega⟩
 refine wpAny_bind (wpAny_setState_of (s:={ s with heap:=h3 }) ho3 hd3 hf3 ?_)
 dsimp only
 have hled3:byT w=true∨(t3.led&&t.led)=true:=by
  rcases hld3 with z | z
  ·exact .inl z
  ·rcases hl with y | y
   ·exact .inl y
   ·exact .inr (by rw [z,y];rfl)
 have hfill:(t3.fill != 0)=false:=by
  unfold SetTable.fill
  rw [hps,hdu]
  rfl
 unfold SetTable.road
 rw [hfill,if_neg Bool.false_ne_true]
 by_cases hm:(t3.mask==t.mask&&t.dummies.isEmpty)=true
 ·rw [if_pos hm]
  dsimp only
  refine wpAny_storeSet_of (s:={ s with heap:=h3 }) ho3 hd3 ?_ (fits_of_scanBound hb)
  exact h _ (sb3.trans (Heap.SameBut.update _ a _)) (Is.store prog (t':={ mask:=t.mask,place:=t.place,dummies:=t.dummies,finger:=t3.finger,led:=t3.led&&t.led,moves:=t3.moves,plain:=t3.plain&&t.plain }) ho3 hex3 hd3 hel hnd hb hf hled3 (.inr (by show (t3.plain&&t.plain)=false;rw [hpl,Bool.and_false]))).2
 ·rw [if_neg hm]
  dsimp only
  obtain ⟨t',order,e1,e2,e3,e4,e5,e6,e7⟩:=ST.yV (finger:=t3.finger) (moves:=t3.moves) (led:=t3.led&&t.led) (plain:=t3.plain&&t.plain) (hashes:=es.map (·.1)) hM (by rw [Array.size_map];exact hle)
  rw [e1]
  rw [Array.size_map] at e2 e3
  have hpm:=kQ e2
  have hsz':(order.filterMap (es[·]?)).size=es.size:=by rw [<- Array.length_toList,hpm.length_eq,Array.length_toList]
  refine wpAny_bind (m:=(do
   if ((order.filterMap (es[·]?)).size != es.size)=true then unsupported "internal:set-table-lost-an-element"
   pure (order.filterMap (es[·]?),t'))) ?_
  rw [hsz',bne_self_eq_false,if_neg Bool.false_ne_true]
  refine wpAny_pure ?_
  refine wpAny_storeSet_of (s:={ s with heap:=h3 }) ho3 hd3 ?_ (by rw [hsz'];exact fits_of_scanBound hb)
  have hf':t'.fits (order.filterMap (es[·]?)).size=true:=by
   simp only [SetTable.fits,Bool.and_eq_true,beq_iff_eq,decide_eq_true_eq,SetTable.fill,e5]
   exact ⟨by omega,by show t'.place.size+0<=t'.mask;omega⟩
  exact h _ (sb3.trans (Heap.SameBut.update _ a _)) (Is.store prog ho3 hex3 hd3 (hel.perm hpm) hnd (by rw [hsz'];exact hb) hf' (by rw [e6];exact hled3) (.inr (by rw [e7,hpl,Bool.and_false]))).2
theorem Is.ty {a:Addr}{ms:List Str}(x:Is w s.heap a ms):s.TypeIs (.ref a) "set" := by
 obtain ⟨o,_,_,_,ho,hex,_⟩:=x
 exact ⟨o,ho,hex.1⟩
theorem Ig {b:Addr}{ms:List Str}{Q:Value->Shared->Prop}(h2:Is w s.heap b ms)(hsz:ms.length<=128)
  (h:∀ h',(∀ x o,s.heap.get? x=some o->h'.get? x=some o)->Is w h' s.heap.objs.size ms->Q (.ref s.heap.objs.size) { s with heap:=h' }):wpAny (model prog w) A (Builtin.Frozenset.copyOf b) Q E s:=by
 unfold Builtin.Frozenset.copyOf Builtin.Frozenset.baseOf
 refine wpAny_bind (wpAny_bind (wpAny_isInstance h2.ty sub_set_self (wpAny_pure ?_)))
 rw [if_pos rfl]
 refine wpAny_bind (Kw ?_)
 refine wpAny_bind (m:=Builtin.Frozenset.addrOf (.ref s.heap.objs.size)) (wpAny_pure ?_)
 obtain ⟨o,ho⟩:=h2.there
 have hlt:=Heap.lt_size ho
 refine wpAny_bind (Ao (s:={ s with heap:=s.heap.push (dE w) }) (Nat.ne_of_gt hlt) (Heap.get?_push_size _ rfl) (h2.at fun o e=>Heap.get?_push_of_some _ e) hsz fun h' sb i=>wpAny_pure ?_)
 exact h h' (fun x o e=>(sb.2 x (Nat.ne_of_lt (Heap.lt_size e))).trans (Heap.get?_push_of_some _ e)) i
theorem Gr:entryFor table "set.__or__" = some Builtin.«frozenset.__or__» :=
 entryFor_alias (id' := "frozenset.__or__") (by kernel_rfl) (by first | rfl | decide +kernel | (unfold String.splitOn;simp +decide [String.splitOnAux])) (by decide +kernel) (by kernel_rfl)
theorem Pi {a b:Addr}{ms1 ms2:List Str}{Q:Value->Shared->Prop}(hab:a≠b)(h1:Is w s.heap a ms1)(h2:Is w s.heap b ms2)(hne:ms1≠[])(hsz:ms1.length+ms2.length<=128)
  (h:∀ h' ms',(∀ x o,s.heap.get? x=some o->h'.get? x=some o)->Is w h' s.heap.objs.size ms'->(∀ x,x∈ms'↔x∈ms1∨x∈ms2)->ms'.length<=ms1.length+ms2.length->Q (.ref s.heap.objs.size) { s with heap:=h' }) :
  wpAny (model prog w) A (binaryOp .BitOr (.ref a) (.ref b)) Q E s:=by
 refine wpAny_binaryOp_same h1.ty h2.ty F.fills_set_or F.slot_set_or (wpAny_call_entry F.slot_set_or h1.ty Gr ?_ (F.args_set_or_2 _ _))
 refine wpAny_bind (m:=Builtin.Frozenset.slot1 "__or__" ⟨[.ref a,.ref b],[]⟩) (wpAny_pure (a:=(Value.ref a,Value.ref b)) ?_)
 dsimp only
 simp only [Bool.false_eq_true,↓reduceIte]
 have any:∀ (c:Addr) (ms:List Str) (A':Around) (s':Shared) (Q':Bool->Shared->Prop),Is w s'.heap c ms->Q' true s'->wpAny (model prog w) A' (Builtin.Frozenset.isAnySet (.ref c)) Q' E s':=fun c ms A' s' Q' hc hQ=>by
  unfold Builtin.Frozenset.isAnySet
  refine wpAny_bind (m:=isInstance (.ref c) (.type "set")) (wpAny_isInstance hc.ty sub_set_self ?_)
  exact wpAny_pure hQ
 refine wpAny_bind (m:=Builtin.Frozenset.isAnySet (.ref a) <&&> Builtin.Frozenset.isAnySet (.ref b)) ?_
 refine wpAny_bind (m:=Builtin.Frozenset.isAnySet (.ref a)) (any a ms1 _ s _ h1 ?_)
 refine any b ms2 _ s _ h2 ?_
 simp only [Bool.not_true,Bool.false_eq_true,↓reduceIte]
 refine wpAny_bind (m:=Builtin.Frozenset.addrOf (.ref a)) (wpAny_pure ?_)
 refine wpAny_bind ?_
 refine wpAny_bind (m:=Builtin.Frozenset.copyOf a) (Ig h1 (by omega) fun h3 kp3 i3=>?_)
 have hb:(Value.ref b != Value.ref a)=true:=by
  rw [bne_iff_ne]
  exact fun z=>hab (by cases z;rfl)
 have hlt:=Heap.lt_size h2.there.choose_spec
 have h2':Is w h3 b ms2:=h2.at fun o e=>kp3 b o e
 have nb:s.heap.objs.size≠b:=Nat.ne_of_gt hlt
 rw [hb,if_pos rfl]
 refine wpAny_bind (m:=holding [.ref s.heap.objs.size] (do Builtin.Frozenset.updateFrom _ (<- Builtin.Frozenset.addrOf (.ref s.heap.objs.size)) (.ref b))) (wpAny_holding ?_)
 refine wpAny_bind (m:=Builtin.Frozenset.addrOf (.ref s.heap.objs.size)) (wpAny_pure ?_)
 unfold Builtin.Frozenset.updateFrom
 refine wpAny_bind (m:=Builtin.Frozenset.isAnySet (.ref b)) (any b ms2 _ { s with heap:=h3 } _ h2' ?_)
 rw [if_pos rfl]
 refine wpAny_bind (m:=Builtin.Frozenset.addrOf (.ref b)) (wpAny_pure ?_)
 unfold Builtin.Frozenset.merge
 obtain ⟨o,es,ep,t,ho,hex,hd,hel,hnd,hbs,hf,hl,hp⟩:=id h2'
 refine wpAny_bind (wpAny_setEpoch_of (s:={ s with heap:=h3 }) ho hd hf ?_)
 refine Cu (s:={ s with heap:=h3 }) nb i3 h2' hne hsz (fun s' Q' keep hQ=>?_) fun h4 ms' sb4 i4 hm hle=>?_
 ·unfold Builtin.Frozenset.unchanged
  refine wpAny_bind (wpAny_setEpoch_of (s:=s') (keep o ho) hd hf ?_)
  rw [bne_self_eq_false,if_neg Bool.false_ne_true]
  exact wpAny_pure hQ
 ·refine wpAny_pure (wpAny_pure ⟨_,rfl,(by intro z;cases z),h h4 ms' (fun x o' e=>(sb4.2 x (Nat.ne_of_lt (Heap.lt_size e))).trans (kp3 x o' e)) i4 hm hle⟩)
end
end SS
namespace SS
open PySem PyProof.Rows
theorem dG:Slot "set_iterator" "__next__" "set_iterator.__next__" :=
 .of (owner := "set_iterator") (n := "__next__") (by rw [typeLookup_type,builtinLookup_eq_fast];kernel_rfl) (by decide +kernel) (by decide +kernel) (by decide +kernel) (by first | exact .inl (by decide +kernel) | exact .inr (by decide +kernel)) (by rw [isSubtype_type];kernel_rfl)
theorem iG:entryFor table "set_iterator.__next__" = some Builtin.«set_iterator.__next__» := entryFor_of_tree (by kernel_rfl)
theorem jM (a:Value):argsOk "set_iterator.__next__" ⟨[a],[]⟩:=by unfold argsOk;kernel_rfl
theorem qZ:Slot "set_iterator" "__iter__" "set_iterator.__iter__" :=
 .of (owner := "set_iterator") (n := "__iter__") (by rw [typeLookup_type,builtinLookup_eq_fast];kernel_rfl) (by decide +kernel) (by decide +kernel) (by decide +kernel) (by first | exact .inl (by decide +kernel) | exact .inr (by decide +kernel)) (by rw [isSubtype_type];kernel_rfl)
theorem Ce (a:Value):argsOk "set_iterator.__iter__" ⟨[a],[]⟩:=by unfold argsOk;kernel_rfl
theorem xJ:entryFor table "set_iterator.__iter__" = some Builtin.«dict_keyiterator.__iter__» :=
 entryFor_alias (id' := "dict_keyiterator.__iter__") (by kernel_rfl) (by first | rfl | decide +kernel | (unfold String.splitOn;simp +decide [String.splitOnAux])) (by decide +kernel) (by kernel_rfl)
theorem wZ:entryFor table "set.__iter__" = some Builtin.«frozenset.__iter__» :=
 entryFor_alias (id' := "frozenset.__iter__") (by kernel_rfl) (by first | rfl | decide +kernel | (unfold String.splitOn;simp +decide [String.splitOnAux])) (by decide +kernel) (by kernel_rfl)
def It (h:Heap)(I a:Addr)(first:Value)(i n ep:Nat):Prop:=∃ o,h.get? I=some o∧o.cls = .type "set_iterator" ∧ o.data = .fields #[first,rawInt (i:Int),.ref a,rawInt (n:Int),rawInt (ep:Int)]
theorem It.at {h h':Heap}{I a:Addr}{first:Value}{i n ep:Nat}(x:It h I a first i n ep)(e:∀ o,h.get? I=some o->h'.get? I=some o):It h' I a first i n ep:=let ⟨o,ho,r⟩:=x;⟨o,e _ ho,r⟩
section
variable {prog:Program}{w:World}{A:Around}{E:Value->Shared->Prop}{s:Shared}
theorem It.ty {I a:Addr}{first:Value}{i n ep:Nat}(x:It s.heap I a first i n ep):s.TypeIs (.ref I) "set_iterator" := let ⟨o,ho,hc,_⟩:=x;⟨o,ho,hc⟩
theorem zT {α:Type}{I:Addr}{s0 s:Shared}{Q:Option Value->Shared->Prop}(hh:A.handled=none)(hQ:∀ h',(∀ b o,s.heap.get? b=some o->h'.get? b=some o)->Q none { s with heap:=h' }) :
  wpAny (model prog w) A.in1 (newExc (.type "StopIteration") [] >>= fun e=>(raiseNew e:Sem Fin)) (fun fin s'=>∃ v,fin = .done (.ret v)∧wpAny (model prog w) A (pure (some v)) Q E s')
   (fun e s'=>wpAny (model prog w) A (do if <- isInstance e (.type "StopIteration") then pure none else throw e) Q E s') s:=by
 refine wpAny_bind ?_
 simp only [newExc,newTuple]
 refine wpAny_bind (wpAny_newObj_type ?_ (by size_fits))
 refine wpAny_bind (m:=firstArgMember _ _) (wpAny_of_eq (a:=Value.none) (by first | rfl | (simp only [firstArgMember];rfl)) ?_)
 refine wpAny_newObj_type ?_ (by size_fits)
 simp only [raiseNew]
 refine wpAny_bind (wpAny_handled ?_)
 first | rw [show A.in1.handled=none from hh] | rw [hh]
 refine wpAny_bind (wpAny_pure (wpAny_throw ?_))
 refine wpAny_bind (wpAny_isInstance (T := "StopIteration") (b:=true) ⟨_,Heap.get?_push_size _ rfl,rfl⟩ isSubtype_stop ?_)
 refine wpAny_pure (hQ _ fun b ob eb=>?_)
 exact Heap.get?_push_of_some _ (Heap.get?_push_of_some _ eb)
end
end SS
namespace SS
open PySem PyProof.Rows
section
variable {prog:Program}{w:World}{A:Around}{E:Value->Shared->Prop}{s:Shared}
theorem Ee {I a:Addr}{o:Obj}{es:Array (Int×Value)}{ep i slot nx:Nat}{t:SetTable}{x:Value}{Q:Option Value->Shared->Prop}(hI:It s.heap I a (rawInt (slot:Int)) i es.size ep)(hne:a≠I)(ho:s.heap.get? a=some o)(hd:o.data = .set es ep t)(hf:t.fits es.size=true)
  (hN:∀ (A':Around) (E':Value->Shared->Prop) (Q':Option (Value×Nat)->Shared->Prop),Q' (some (x,nx)) s->wpAny (model prog w) A' (setNext a slot i ep) Q' E' s)
  (hQ:∀ h',It h' I a (rawInt (nx:Int)) (i+1) es.size ep->Heap.SameBut I s.heap h'->Q (some x) { s with heap:=h' }):wpAny (model prog w) A (pyNext (.ref I)) Q E s:=by
 obtain ⟨oi,hoi,hci,hdi⟩:=id hI
 unfold pyNext
 refine wpAny_bind (wpAny_attempt (wpAny_callSpecial?_slot (name:=Str.ofString "__next__") hI.ty dG (wpAny_call_entry dG hI.ty iG ?_ (jM _))))
 unfold Builtin.«set_iterator.__next__»
 refine wpAny_bind (wpAny_of_eq (a:=(Value.ref I,[])) rfl ?_)
 try dsimp only
 refine wpAny_bind (wpAny_fieldsOf hoi hdi ?_)
 dsimp only [rawInt]
 refine wpAny_bind (wpAny_setEntries_of ho hd hf ?_)
 rw [if_neg (by simp)]
 refine wpAny_bind (m:=setNext a (slot:Int).toNat (i:Int).toNat (ep:Int).toNat) ?_
 rw [Int.toNat_natCast,Int.toNat_natCast,Int.toNat_natCast]
 refine hN _ _ _ ?_
 dsimp only
 refine wpAny_bind (wpAny_setField hoi hdi (by simp) ?_)
 have h2:=Heap.get?_update_self (Obj.mapFields (·.setIfInBounds 0 (rawInt (nx:Int)))) hoi (Obj.isFreed_of_fields (Obj.data_mapFields hdi _))
 refine wpAny_bind (wpAny_setField h2 (Obj.data_mapFields hdi _) (by simp) ?_)
 refine wpAny_pure ⟨_,rfl,wpAny_pure (hQ _ ?_ ((Heap.SameBut.update ..).trans (Heap.SameBut.update ..)))⟩
 exact ⟨_,Heap.get?_update_self _ h2 (Obj.isFreed_of_fields (Obj.data_mapFields (Obj.data_mapFields hdi _) _)),(Obj.cls_mapFields ..).trans ((Obj.cls_mapFields ..).trans hci),by rw [Obj.data_mapFields (Obj.data_mapFields hdi _)];simp [rawInt]⟩
theorem Im {I a:Addr}{o:Obj}{es:Array (Int×Value)}{ep i slot:Nat}{t:SetTable}{Q:Option Value->Shared->Prop}(hh:A.handled=none)(hI:It s.heap I a (rawInt (slot:Int)) i es.size ep)(hne:a≠I)(ho:s.heap.get? a=some o)(hd:o.data = .set es ep t)(hf:t.fits es.size=true)
  (hN:∀ (A':Around) (E':Value->Shared->Prop) (Q':Option (Value×Nat)->Shared->Prop),Q' none s->wpAny (model prog w) A' (setNext a slot i ep) Q' E' s)
  (hQ:∀ h',Heap.ExtBut I s.heap h'->Q none { s with heap:=h' }):wpAny (model prog w) A (pyNext (.ref I)) Q E s:=by
 obtain ⟨oi,hoi,hci,hdi⟩:=id hI
 unfold pyNext
 refine wpAny_bind (wpAny_attempt (wpAny_callSpecial?_slot (name:=Str.ofString "__next__") hI.ty dG (wpAny_call_entry dG hI.ty iG ?_ (jM _))))
 unfold Builtin.«set_iterator.__next__»
 refine wpAny_bind (wpAny_of_eq (a:=(Value.ref I,[])) rfl ?_)
 try dsimp only
 refine wpAny_bind (wpAny_fieldsOf hoi hdi ?_)
 dsimp only [rawInt]
 refine wpAny_bind (wpAny_setEntries_of ho hd hf ?_)
 rw [if_neg (by simp)]
 refine wpAny_bind (m:=setNext a (slot:Int).toNat (i:Int).toNat (ep:Int).toNat) ?_
 rw [Int.toNat_natCast,Int.toNat_natCast,Int.toNat_natCast]
 refine hN _ _ _ ?_
 dsimp only
 refine wpAny_bind (wpAny_setField hoi hdi (by simp) ?_)
 refine wpAny_mono (zT (α:=Unit) (I:=I) (s0:=s) (Q:=Q) (E:=E) hh fun h' kp=>hQ h' fun b ob hb eb=>kp b ob ((Heap.get?_update_other _ _ (Ne.symm hb)).trans eb)) (fun fin s' z=>z) fun e s' z=>z
theorem Es {I a tp:Addr}{o ot:Obj}{es:Array (Int×Value)}{ep i p nt:Nat}{t:SetTable}{x:Int×Value}{ps:List Nat}{Q:Option Value->Shared->Prop}(hI:It s.heap I a (.ref tp) i es.size ep)(ho:s.heap.get? a=some o)(hd:o.data = .set es ep t)(hf:t.fits es.size=true)
  (hot:s.heap.get? tp=some ot) (hdt:ot.data = .seq (ps.map fun j:Nat=>rawInt (j:Int)).toArray nt) (hp:ps[i]?=some p) (hx:es[p]?=some x)
  (hQ:∀ h',It h' I a (.ref tp) (i+1) es.size ep->Heap.SameBut I s.heap h'->Q (some x.2) { s with heap:=h' }):wpAny (model prog w) A (pyNext (.ref I)) Q E s:=by
 obtain ⟨oi,hoi,hci,hdi⟩:=id hI
 unfold pyNext
 refine wpAny_bind (wpAny_attempt (wpAny_callSpecial?_slot (name:=Str.ofString "__next__") hI.ty dG (wpAny_call_entry dG hI.ty iG ?_ (jM _))))
 unfold Builtin.«set_iterator.__next__»
 refine wpAny_bind (wpAny_of_eq (a:=(Value.ref I,[])) rfl ?_)
 try dsimp only
 refine wpAny_bind (wpAny_fieldsOf hoi hdi ?_)
 dsimp only [rawInt]
 refine wpAny_bind (wpAny_setEntries_of ho hd hf ?_)
 rw [if_neg (by simp)]
 refine wpAny_bind (wpAny_seqItems hot hdt ?_)
 dsimp only
 rw [Int.toNat_natCast,List.getElem?_toArray,List.getElem?_map,hp]
 dsimp only [Option.map,rawInt]
 refine wpAny_bind (m:=setNextDrawn a (p:Int).toNat (ep:Int).toNat) ?_
 rw [Int.toNat_natCast,Int.toNat_natCast]
 unfold setNextDrawn
 refine wpAny_bind (wpAny_setState_of ho hd hf ?_)
 dsimp only
 rw [bne_self_eq_false,if_neg Bool.false_ne_true,hx]
 refine wpAny_pure ?_
 refine wpAny_bind (wpAny_setField hoi hdi (by simp) ?_)
 refine wpAny_pure ⟨_,rfl,wpAny_pure (hQ _ ?_ (Heap.SameBut.update ..))⟩
 exact ⟨_,Heap.get?_update_self _ hoi (Obj.isFreed_of_fields (Obj.data_mapFields hdi _)),(Obj.cls_mapFields ..).trans hci,by rw [Obj.data_mapFields hdi];simp [rawInt]⟩
theorem Ij {I a tp:Addr}{o ot:Obj}{es:Array (Int×Value)}{ep i nt:Nat}{t:SetTable}{ps:List Nat}{Q:Option Value->Shared->Prop}(hh:A.handled=none)(hI:It s.heap I a (.ref tp) i es.size ep)(ho:s.heap.get? a=some o)(hd:o.data = .set es ep t)(hf:t.fits es.size=true)
  (hot:s.heap.get? tp=some ot) (hdt:ot.data = .seq (ps.map fun j:Nat=>rawInt (j:Int)).toArray nt) (hp:ps[i]?=none)
  (hQ:∀ h',Heap.ExtBut I s.heap h'->Q none { s with heap:=h' }):wpAny (model prog w) A (pyNext (.ref I)) Q E s:=by
 obtain ⟨oi,hoi,hci,hdi⟩:=id hI
 unfold pyNext
 refine wpAny_bind (wpAny_attempt (wpAny_callSpecial?_slot (name:=Str.ofString "__next__") hI.ty dG (wpAny_call_entry dG hI.ty iG ?_ (jM _))))
 unfold Builtin.«set_iterator.__next__»
 refine wpAny_bind (wpAny_of_eq (a:=(Value.ref I,[])) rfl ?_)
 try dsimp only
 refine wpAny_bind (wpAny_fieldsOf hoi hdi ?_)
 dsimp only [rawInt]
 refine wpAny_bind (wpAny_setEntries_of ho hd hf ?_)
 rw [if_neg (by simp)]
 refine wpAny_bind (wpAny_seqItems hot hdt ?_)
 dsimp only
 rw [Int.toNat_natCast,List.getElem?_toArray,List.getElem?_map,hp]
 dsimp only [Option.map]
 refine wpAny_bind (wpAny_setField hoi hdi (by simp) ?_)
 have h2:=Heap.get?_update_self (Obj.mapFields (·.setIfInBounds 0 (rawInt 0))) hoi (Obj.isFreed_of_fields (Obj.data_mapFields hdi _))
 refine wpAny_bind (wpAny_setField h2 (Obj.data_mapFields hdi _) (by simp) ?_)
 refine wpAny_mono (zT (α:=Unit) (I:=I) (s0:=s) (Q:=Q) (E:=E) hh fun h' kp=>hQ h' fun b ob hb eb=>kp b ob ((Heap.get?_update_other _ _ (Ne.symm hb)).trans ((Heap.get?_update_other _ _ (Ne.symm hb)).trans eb))) (fun fin s' z=>z) fun e s' z=>z
theorem zS {I a:Addr}{first:Value}{i n ep:Nat}{Q:Value->Shared->Prop}(hI:It s.heap I a first i n ep)(h:Q (.ref I) s):wpAny (model prog w) A (pyIter (.ref I)) Q E s:=by
 refine wpAny_pyIter_slot hI.ty qZ (wpAny_call_entry qZ hI.ty xJ ?_ (Ce _))
 show wpAny _ _ (ret (.ref I)) _ _ s
 exact wpAny_pure ⟨_,rfl, "set_iterator",_,hI.ty,dG.lookup,h⟩
theorem sH {M:Model}{src:Source}{n:Nat}{Q:Nat->Shared->Prop}(hn:n≠0)(h:∀ i d,i<n->Q i { s with drawn:=d }):wpAny M A (choose src n) Q E s:=fun Γ p hΓ=>⟨hn,h _ _ (Nat.mod_lt _ (Nat.pos_of_ne_zero hn))⟩
theorem Jf {α:Type}:∀ (xs:List α) (s:Shared) (Q:List α->Shared->Prop),(∀ ys d,ys.Perm xs->Q ys { s with drawn:=d })->wpAny (model prog w) A (drawOrder xs.length xs) Q E s:=by
 intro xs
 generalize hn:xs.length=n
 induction n generalizing xs with
 | zero =>
  intro s Q h
  obtain rfl:=List.length_eq_zero_iff.mp hn
  rw [drawOrder]
  exact wpAny_pure (h [] s.drawn (List.Perm.refl _))
 | succ n ih =>
  intro s Q h
  cases xs with
  | nil=>cases hn
  | cons x xs =>
   rw [drawOrder]
   rotate_left
   ·intro z
    cases z
   refine wpAny_bind (sH (by simp) fun i d hi=>?_)
   rw [List.getElem?_eq_getElem hi]
   dsimp only
   refine wpAny_bind (ih ((x::xs).eraseIdx i) (by rw [List.length_eraseIdx_of_lt hi,hn];rfl) _ _ fun ys d2 hp=>wpAny_pure ?_)
   exact h _ d2 ((hp.cons _).trans (kG _ i hi))
end
end SS
namespace SS
open PySem PyProof.Rows
theorem Gk {prog:Program}{w:World}{A:Around}{a I:Addr}{o:Obj}{es:Array (Int×Value)}{ep:Nat}{t:SetTable}{L:List (Int×Value)}{slots:Nat->Nat}(hh:A.handled=none)(hne:a≠I)(hd:o.data = .set es ep t)(hf:t.fits es.size=true)
  (hN:∀ (i:Nat) (s:Shared) (A':Around) (E':Value->Shared->Prop) (Q':Option (Value×Nat)->Shared->Prop),s.heap.get? a=some o->i<=L.length->Q' ((L[i]?).map fun e=>(e.2,slots (i+1))) s->wpAny (model prog w) A' (setNext a (slots i) i ep) Q' E' s) :
  Walks prog w A I [I,a] [I] L.length (fun i v=>(L.map (·.2))[i]?=some v) (fun i h=>h.get? a=some o∧It h I a (rawInt (slots i:Int)) i es.size ep) where
 sub:=fun b hb=>by simp at hb;simp [hb]
 frame:=fun _ _ _ y hk=>⟨hk a (by simp) o y.1,y.2.at fun o e=>hk I (by simp) o e⟩
 item:=fun i s Q E hi y hQ=>by
  refine Ee (x:=L[i].2) (nx:=slots (i+1)) y.2 hne y.1 hd hf (fun A' E' Q' q=>hN i s A' E' Q' y.1 (by omega) ?_) fun h' hit hs=>?_
  ·rw [List.getElem?_eq_getElem hi]
   exact q
  ·exact hQ _ h' s.toks (by rw [List.getElem?_map,List.getElem?_eq_getElem hi];rfl) ⟨(hs.2 a hne).trans y.1,hit⟩ fun b o hb eo=>hs.extBut b o (fun h=>hb (by simp [h])) eo
 done:=fun s Q E y hQ=>by
  refine Im hh y.2 hne y.1 hd hf (fun A' E' Q' q=>hN L.length s A' E' Q' y.1 (Nat.le_refl _) ?_) fun h' he=>hQ h' s.toks fun b o hb eo=>he b o (fun h=>hb (by simp [h])) eo
  rw [List.getElem?_eq_none (Nat.le_refl _)]
  exact q
 self:=fun _ _ _ _ y hQ=>zS y.2 hQ
theorem Fz {prog:Program}{w:World}{A:Around}{a I tp:Addr}{o ot:Obj}{es:Array (Int×Value)}{ep nt:Nat}{t:SetTable}{ps:List Nat}(hh:A.handled=none)(hne:a≠I)(hnt:tp≠I)(hd:o.data = .set es ep t)(hf:t.fits es.size=true)
  (hdt:ot.data = .seq (ps.map fun j:Nat=>rawInt (j:Int)).toArray nt) (hps:∀ p∈ps,p<es.size) :
  Walks prog w A I [I,a,tp] [I] ps.length (fun i v=>(ps.map fun p=>(es.getD p (0,.none)).2)[i]?=some v) (fun i h=>h.get? a=some o∧h.get? tp=some ot∧It h I a (.ref tp) i es.size ep) where
 sub:=fun b hb=>by simp at hb;simp [hb]
 frame:=fun _ _ _ y hk=>⟨hk a (by simp) o y.1,hk tp (by simp) ot y.2.1,y.2.2.at fun o e=>hk I (by simp) o e⟩
 item:=fun i s Q E hi y hQ=>by
  have hp:ps[i]?=some ps[i]:=List.getElem?_eq_getElem hi
  have hlt:=hps _ (List.getElem_mem hi)
  have hx:es[ps[i]]?=some (es[ps[i]]'hlt):=Array.getElem?_eq_getElem hlt
  refine Es y.2.2 y.1 hd hf y.2.1 hdt hp hx fun h' hit hs=>?_
  refine hQ _ h' s.toks ?_ ⟨(hs.2 a hne).trans y.1,(hs.2 tp hnt).trans y.2.1,hit⟩ fun b o hb eo=>hs.extBut b o (fun h=>hb (by simp [h])) eo
  rw [List.getElem?_map,hp]
  show some (es.getD ps[i] (0,Value.none)).2=_
  rw [Array.getD_eq_getD_getElem?,hx]
  rfl
 done:=fun s Q E y hQ=>Ij hh y.2.2 y.1 hd hf y.2.1 hdt (List.getElem?_eq_none (Nat.le_refl _)) fun h' he=>hQ h' s.toks fun b o hb eo=>he b o (fun h=>hb (by simp [h])) eo
 self:=fun _ _ _ _ y hQ=>zS y.2.2 hQ
theorem uU {w:World}:∀ L:List (Int×Value),(∀ e∈L,El w e)->StrsAre (L.map (·.2)) (L.map fun e=>pE e.2)
 | [],_=>.nil
 | e::L,h=>by
  obtain ⟨_,tk,q⟩:=h e (List.mem_cons_self ..)
  rw [List.map_cons,List.map_cons]
  have r:=uU L fun x hx=>h x (List.mem_cons_of_mem _ hx)
  have z:StrsAre (Value.str (pE e.2) tk::L.map (·.2)) (pE e.2::L.map fun e=>pE e.2):=.cons _ _ r
  rw [<- q] at z
  exact z
section
variable {prog:Program}{w:World}{A:Around}{E:Value->Shared->Prop}{s:Shared}
theorem Ia {a:Addr}{ms:List Str}{Q:Value->Shared->Prop}(hS:Is w s.heap a ms)
  (h:∀ (h':Heap) (d:Drawn) (I:Addr) (fp:List Addr) (xs:List Value) (ss:List Str) (St:Nat->Heap->Prop),(∀ A':Around,A'.handled=none->Walks prog w A' I fp [I] xs.length (fun i v=>xs[i]?=some v) St)->St 0 h' ->
   (∀ b o,s.heap.get? b=some o->h'.get? b=some o)->s.heap.objs.size<=I->(∀ b∈fp,b=a∨s.heap.objs.size<=b)->StrsAre xs ss->ss.Perm ms->Q (.ref I) { s with heap:=h',drawn:=d }) :
  wpAny (model prog w) A (pyIter (.ref a)) Q E s:=by
 obtain ⟨o,es,ep,t,ho,hex,hd,hel,hnd,hb,hf,hl,hp⟩:=id hS
 have hlt:=Heap.lt_size ho
 have hps:t.place.size=es.size:=by
  simp only [SetTable.fits,Bool.and_eq_true,beq_iff_eq] at hf
  exact hf.1
 refine wpAny_pyIter_slot hS.ty F.slot_set_iter (wpAny_call_entry F.slot_set_iter hS.ty wZ ?_ (F.args_set_iter_1 _))
 unfold Builtin.«frozenset.__iter__»
 refine wpAny_bind (m:=Builtin.Frozenset.slot0 "__iter__" ⟨[.ref a],[]⟩) (wpAny_of_eq (a:=a) rfl ?_)
 unfold Builtin.Frozenset.sizeOf
 refine wpAny_bind (wpAny_bind (wpAny_setEntries_of ho hd hf (wpAny_pure ?_)))
 have hlist:∀ L:List (Int×Value),L.Perm es.toList->StrsAre (L.map (·.2)) (L.map fun e=>pE e.2)∧(L.map fun e=>pE e.2).Perm ms:=fun L hp=>⟨uU L (hel.perm hp).1,(hel.perm hp).2⟩
 have fin:∀ (L:List (Int×Value)) (slots:Nat->Nat),slots 0=0->L.Perm es.toList->(∀ (i:Nat) (s:Shared) (A':Around) (E':Value->Shared->Prop) (Q':Option (Value×Nat)->Shared->Prop),s.heap.get? a=some o->i<=L.length->Q' ((L[i]?).map fun e=>(e.2,slots (i+1))) s->wpAny (model prog w) A' (setNext a (slots i) i ep) Q' E' s) ->
   wpAny (model prog w) A.in1 (setEpoch a >>= fun e=>newFields "set_iterator" [rawInt 0,rawInt 0,.ref a,rawInt (es.size:Int),rawInt (e:Int)] >>= ret) (fun fin s'=>∃ v,fin = .done (.ret v)∧∃ (T:String) (r:Value),s'.TypeIs v T∧typeLookup (.type T) "__next__" = pure (some r)∧Q v s') E s:=fun L slots h0 hL hN=>by
  refine wpAny_bind (wpAny_setEpoch_of ho hd hf ?_)
  have hI:It (s.heap.push { cls:=.type "set_iterator",data:=.fields #[rawInt 0,rawInt 0,.ref a,rawInt (es.size:Int),rawInt (ep:Int)] }) s.heap.objs.size a (rawInt (slots 0:Int)) 0 es.size ep:=⟨_,Heap.get?_push_size _ rfl,rfl,by rw [h0];rfl⟩
  obtain ⟨q1,q2⟩:=hlist L hL
  refine wpAny_bind (wpAny_newObj_type (wpAny_pure ⟨_,rfl, "set_iterator",_,⟨_,Heap.get?_push_size _ rfl,rfl⟩,dG.lookup,?_⟩))
  have z:=h (s.heap.push { cls:=.type "set_iterator",data:=.fields #[rawInt 0,rawInt 0,.ref a,rawInt (es.size:Int),rawInt (ep:Int)] }) s.drawn s.heap.objs.size [s.heap.objs.size,a] (L.map (·.2)) _ (fun i h=>h.get? a=some o∧It h s.heap.objs.size a (rawInt (slots i:Int)) i es.size ep) (fun A' hA'=>by
     rw [List.length_map]
     exact Gk hA' (Nat.ne_of_lt hlt) hd hf hN) ⟨Heap.get?_push_of_some _ ho,hI⟩ (fun b o e=>Heap.get?_push_of_some _ e) (Nat.le_refl _) (fun b hb=>by
     rcases List.mem_cons.mp hb with rfl | hb
     · exact .inr (Nat.le_refl _)
     · exact .inl (List.mem_singleton.mp hb)) q1 q2
  exact z
 have hdrw:∀ (Q':Bool->Shared->Prop),Q' (!byT w&&(!t.plain&&decide (es.size>1))) s->wpAny (model prog w) A.in1 (setDrawn a) Q' E s:=fun Q' q=>by
  unfold setDrawn
  refine wpAny_bind (wpAny_setState_of ho hd hf ?_)
  dsimp only
  exact wpAny_bind (fJ (wpAny_pure q))
 refine wpAny_bind (hdrw _ ?_)
 by_cases hby:byT w=true
 ·rw [hby]
  simp only [Bool.not_true,Bool.false_and,Bool.false_eq_true,↓reduceIte]
  refine wpAny_bind (wpAny_pure ?_)
  refine fin (pickOrder (w.params.setOrder a ep) es).toList (fun _=>0) rfl (qG _ _) fun i s' A' E' Q' ho' hi q=>?_
  unfold setNext
  refine wpAny_bind (wpAny_setState_of ho' hd hf ?_)
  dsimp only
  refine wpAny_bind (fJ ?_)
  rw [hby,if_pos rfl,bne_self_eq_false,if_neg Bool.false_ne_true]
  unfold setWalk
  refine wpAny_bind (wpAny_bind (wpAny_setState_of ho' hd hf ?_))
  dsimp only
  refine wpAny_bind (fJ ?_)
  rw [hby,if_pos rfl]
  refine wpAny_bind (wpAny_askSetting (wpAny_pure (wpAny_pure ?_)))
  rw [Array.getElem?_toList] at q
  exact q
 ·have hbf:byT w=false:=Bool.eq_false_iff.mpr hby
  have hld:t.led=true:=hl.resolve_left hby
  by_cases h1:es.size<=1
  ·have hnot:(!byT w&&(!t.plain&&decide (es.size>1)))=false:=by rw [decide_eq_false (by omega)];simp
   rw [hnot]
   simp only [Bool.false_eq_true,↓reduceIte]
   refine wpAny_bind (wpAny_pure ?_)
   have hN:∀ (slot i:Nat) (s':Shared) (A':Around) (E':Value->Shared->Prop) (Q':Option (Value×Nat)->Shared->Prop),s'.heap.get? a=some o ->
       Q' (match es[SetTable.below t.place slot]?,t.place[SetTable.below t.place slot]? with | some (_,x),some j=>some (x,j+1) | _,_=>none) s'->wpAny (model prog w) A' (setNext a slot i ep) Q' E' s':=fun slot i s' A' E' Q' ho' q=>by
     unfold setNext
     refine wpAny_bind (wpAny_setState_of ho' hd hf ?_)
     dsimp only
     refine wpAny_bind (fJ ?_)
     rw [hbf,if_neg Bool.false_ne_true]
     have hdr:(!t.plain&&decide (es.size>1))=false:=by rw [decide_eq_false (by omega)];simp
     show wpAny _ _ (if (!t.plain&&decide (es.size>1))=true then _ else _) _ _ s'
     rw [hdr,if_neg Bool.false_ne_true]
     refine wpAny_bind (m:=if (!t.led && !es.isEmpty)=true then unsupported "set:maker-not-led" else pure ()) ?_
     rw [hld]
     simp only [Bool.not_true,Bool.false_and,Bool.false_eq_true,↓reduceIte]
     exact wpAny_pure (wpAny_pure q)
   by_cases h0:es.size=0
   · have ee:es = #[]:=Array.eq_empty_of_size_eq_zero h0
     refine fin [] (fun _=>0) rfl (by rw [ee]) fun i s' A' E' Q' ho' hi q=>hN 0 i s' A' E' Q' ho' ?_
     rw [ee,Array.getElem?_eq_none (by simp)]
     exact q
   · obtain ⟨e0,he0⟩:∃ e0,es = #[e0]:=by
       obtain ⟨l⟩:=es
       match l,h0,h1 with
       | [e0],_,_=>exact ⟨e0,rfl⟩
       | [],h,_=>exact absurd rfl h
       | _::_::_,_,h=>simp at h
     obtain ⟨j,hj⟩:∃ j,t.place = #[j]:=by
       rw [he0] at hps
       cases hpl:t.place with
       | mk l =>
         rw [hpl] at hps
         match l,hps with
         | [j],_=>exact ⟨j,rfl⟩
     refine fin [e0] (fun i=>if i=0 then 0 else j+1) rfl (by rw [he0]) fun i s' A' E' Q' ho' hi q=>hN _ i s' A' E' Q' ho' ?_
     have b0:SetTable.below #[j] 0=0:=by
       simp [SetTable.below,SetTable.below.go]
     have b1:SetTable.below #[j] (j+1)=1:=by
       simp [SetTable.below,SetTable.below.go]
     match i,hi with
     | 0,_ =>
       rw [if_pos rfl,hj,b0,he0]
       exact q
     | 1,_ =>
       rw [if_neg (by decide),hj,b1,he0]
       exact q
  ·have hpl:t.plain=false:=hp.resolve_left (by omega)
   have hyes:(!byT w&&(!t.plain&&decide (es.size>1)))=true:=by rw [hbf,hpl,decide_eq_true (by omega)];rfl
   rw [hyes,if_pos rfl]
   have hr:(List.range es.size).length=es.size:=List.length_range
   refine wpAny_bind (m:=drawOrder es.size (List.range es.size)) ?_
   have dr:=Jf (prog:=prog) (w:=w) (A:=A.in1) (E:=E) (List.range es.size) s
   rw [hr] at dr
   refine dr _ fun ps d hpp=>?_
   have hpl:ps.length=es.size:=by rw [hpp.length_eq,hr]
   have hs:sizeLine=16777216:=sizeLine_eq
   have sb:scanBound=4096:=rfl
   refine wpAny_bind (wpAny_newTuple ?_ (by rw [List.length_map];omega))
   generalize hot:({ cls:=.type "tuple",data:=.seq (ps.map fun j:Nat=>rawInt (j:Int)).toArray }:Obj)=ot
   have hg:(s.heap.push ot).get? s.heap.objs.size=some ot:=Heap.get?_push_size _ (by rw [<- hot];rfl)
   have ho2:(s.heap.push ot).get? a=some o:=Heap.get?_push_of_some _ ho
   refine wpAny_bind (wpAny_setEpoch_of (s:={ s with heap:=s.heap.push ot,drawn:=d }) ho2 hd hf ?_)
   refine wpAny_bind (wpAny_newObj_type (wpAny_pure ⟨_,rfl, "set_iterator",_,⟨_,Heap.get?_push_size _ rfl,rfl⟩,dG.lookup,?_⟩))
   have hsz:(s.heap.push ot).objs.size=s.heap.objs.size+1:=Heap.size_push _ _
   have hfm:(ps.map fun p=>es.getD p (0,Value.none)).Perm es.toList:=by
     have e1:(List.range es.size).map (fun p=>es.getD p (0,Value.none))=es.toList:=by
       apply List.ext_getElem
       · simp
       · intro i g1 g2
         have g3:i<es.size:=by simpa using g1
         simp [Array.getD_eq_getD_getElem?,g3]
     exact (hpp.map _).trans (by rw [e1])
   obtain ⟨q1,q2⟩:=hlist _ hfm
   rw [List.map_map,List.map_map] at q1
   rw [List.map_map] at q2
   have hps':∀ p∈ps,p<es.size:=fun p hp=>List.mem_range.mp (hpp.mem_iff.mp hp)
   have hgo:∀ (o2:Obj),o2 = { cls:=.type "set_iterator",data:=.fields #[.ref s.heap.objs.size,rawInt 0,.ref a,rawInt (es.size:Int),rawInt (ep:Int)] }->Q (.ref (s.heap.objs.size+1)) { s with heap:=(s.heap.push ot).push o2,drawn:=d }:=fun o2 ho2'=>by
    refine h ((s.heap.push ot).push o2) d (s.heap.objs.size+1) [s.heap.objs.size+1,a,s.heap.objs.size] (ps.map fun p=>(es.getD p (0,Value.none)).2) _ (fun i h=>h.get? a=some o∧h.get? s.heap.objs.size=some ot∧It h (s.heap.objs.size+1) a (.ref s.heap.objs.size) i es.size ep) (fun A' hA'=>by
        rw [List.length_map]
        exact Fz (ot:=ot) (nt:=0) hA' (Nat.ne_of_lt (Nat.lt_succ_of_lt hlt)) (Nat.ne_of_lt (Nat.lt_succ_self _)) hd hf (by rw [<- hot]) hps') ⟨Heap.get?_push_of_some _ ho2,Heap.get?_push_of_some _ hg,?_⟩ (fun b o e=>Heap.get?_push_of_some _ (Heap.get?_push_of_some _ e)) (Nat.le_succ _) (fun b hb=>?_) q1 q2
    · rw [<- hsz]
      exact ⟨o2,Heap.get?_push_size _ (by rw [ho2'];rfl),by rw [ho2'],by rw [ho2'];rfl⟩
    · rcases List.mem_cons.mp hb with rfl | hb
      · exact .inr (Nat.le_succ _)
      · rcases List.mem_cons.mp hb with rfl | hb
        · exact .inl rfl
        · exact .inr (Nat.le_of_eq (List.mem_singleton.mp hb).symm)
   have z:=hgo _ rfl
   rw [<- hsz] at z
   exact z
end
end SS
namespace SS
open PySem PyProof.Rows
theorem Gy {xs:List Value}{acc:Array Value}(h:ItemsOf (fun i v=>xs[i]?=some v) acc xs.length):acc.toList=xs:=by
 apply List.ext_getElem?
 intro i
 rw [Array.getElem?_toList]
 cases e:acc[i]? with
 | some v=>exact (h.2 i v e).symm
 | none =>
  have:acc.size<=i:=by
   rcases Nat.lt_or_ge i acc.size with z | z
   ·rw [Array.getElem?_eq_getElem z] at e;cases e
   ·exact z
  rw [List.getElem?_eq_none (by rw [<- h.1];exact this)]
section
variable {prog:Program}{w:World}{A:Around}{E:Value->Shared->Prop}{s:Shared}
theorem Jb {a:Addr}{ms:List Str}{Q:Bool->Shared->Prop}(hS:Is w s.heap a ms)(h:Q false s):wpAny (model prog w) A (Builtin.List.listLengthHint (.ref a)) Q E s:=by
 unfold Builtin.List.listLengthHint
 refine wpAny_bind (wpAny_specialOf hS.ty F.slot_set_len.lookup ?_)
 generalize hid:("set.__len__" : String)=id0
 wp_delta
 rw [show splitId id0=some ("set", "__len__") from by subst hid;decide +kernel]
 subst hid
 refine wpAny_bind (wpAny_isInstance (T := "set") (b:=true) hS.ty sub_set_self ?_)
 refine wpAny_ite_split (fun hab=>absurd hab (by decide)) (fun _=>?_)
 refine wpAny_ite_split (fun _=>?_) (fun hab=>absurd (by decide +kernel) hab)
 refine wpAny_bind (wpAny_typeOf hS.ty ?_)
 exact wpAny_pure h
theorem Ai {a:Addr}{ms:List Str}{R:Result->Shared->Prop}(hh:A.handled=none)(hS:Is w s.heap a ms)(hz:ms.length<=sizeLine)(S:Addr)(res:Value)(h1:S≠a)(hSl:s.heap.get? S=some { cls:=.type "list",data:=.seq #[] })
  (hR:∀ s' acc' c' ss,(∀ b o,b≠S->s.heap.get? b=some o->s'.heap.get? b=some o)->s'.gens=s.gens->s'.os=s.os->s'.heap.get? S=some { cls:=.type "list",dict:=none,data:=.seq acc' c',slots:=#[] }->StrsAre acc'.toList ss->ss.Perm ms->R (.ok (.ret res)) s') :
  wpAny (model prog w) A.in1 (Builtin.List.listExtendWith (.ref S) (.ref a) res)
   (fun fin s'=>match fin with | .done f=>R (.ok f) s' | .again c'=>c'.quiet=true∧codeAny (model prog w) A c' R s') (fun e s'=>R (.error e) s') s:=by
 unfold Builtin.List.listExtendWith
 refine wpAny_bind (wpAny_typeOf hS.ty ?_)
 have g1:Builtin.List.listSameRef (.ref S) (.ref a)=false:=by simp [Builtin.List.listSameRef,h1]
 have g2:(Value.type "set" == Value.type "list")=false:=by decide
 have g3:(Value.type "set" == Value.type "tuple")=false:=by decide
 simp only [g1,g2,g3,Bool.or_false,Bool.false_eq_true,if_false]
 refine wpAny_bind (Ia (A:=A.in1) hS fun h2 d I fp xs ss St W st0 kp hIs hfp hss hpm=>?_)
 have hlt:=Heap.lt_size hSl
 have hSI:S≠I:=Nat.ne_of_lt (Nat.lt_of_lt_of_le hlt hIs)
 have hSf:S∉fp:=fun z=>by
  rcases hfp S z with e | e
  ·exact h1 e
  ·exact absurd hlt (Nat.not_lt.mpr e)
 have hS2:Is w h2 a ms:=hS.at fun o e=>kp a o e
 refine wpAny_bind (wpAny_holding (Jb (s:={ s with heap:=h2,drawn:=d }) hS2 ?_))
 have WS:=(W A.in1 hh).toS
 have hxl:xs.length=ms.length:=by rw [hss.length,hpm.length_eq]
 have last:∀ (h0:Heap) (c0:Nat),(∀ b o,b≠S->h2.get? b=some o->h0.get? b=some o)->h0.get? S=some { cls:=.type "list",data:=.seq #[] c0 } ->
   wpAny (model prog w) A.in1 (again (.builtin "list.extend.loop" ⟨[.ref S,.ref I,res],[]⟩))
    (fun fin s'=>match fin with | .done f=>R (.ok f) s' | .again c'=>c'.quiet=true∧codeAny (model prog w) A c' R s') (fun e s'=>R (.error e) s') { s with heap:=h0,drawn:=d }:=fun h0 c0 hk0 hS0=>by
  refine wpAny_pure ⟨plainId_quiet F.plain_extend_loop _,codeAny_extend_loopS WS (by omega) S hSf res xs.length 0 _ #[] c0 rfl (Nat.zero_le _) ?_ hS0 (ItemsOf.nil _) fun s' acc' c' hm hS' hacc=>?_⟩
  ·exact (W A.in1 hh).frame 0 h2 h0 st0 fun b hb o e=>hk0 b o (fun z=>hSf (z▸hb)) e
  ·refine hR s' acc' c' ss (fun b o hb e=>?_) hm.gens hm.os hS' (by rw [Gy hacc];exact hss) hpm
   by_cases hbI:b=I
   ·subst hbI
    exact absurd (Heap.lt_size e) (Nat.not_lt.mpr hIs)
   ·exact hm.heap b o (by simp [hb,hbI]) (hk0 b o hb (kp b o e))
 refine wpAny_ite_split (fun _=>?_) (fun hab=>absurd (by decide +kernel) hab)
 refine wpAny_bind (wpAny_rule ?_)
 have hSl2:h2.get? S=some { cls:=.type "list",data:=.seq #[] }:=kp S _ hSl
 refine wpAny_bind (m:=((do updateSeq S (fun z=>z.push .none);updateSeq S (fun z=>z.pop)):Sem Unit)) (wpAny_bind (wpAny_updateSeq (s:={ s with heap:=h2,drawn:=d }) hSl2 rfl ?_))
 have k1:=Heap.get?_update_self (Obj.mapSeq (fun z=>z.push .none)) hSl2 rfl
 refine wpAny_updateSeq k1 rfl ?_
 have k2:=Heap.get?_update_self (Obj.mapSeq (fun z=>z.pop)) k1 rfl
 exact last _ _ (fun b o hb e=>(Heap.get?_update_other _ _ (Ne.symm hb)).trans ((Heap.get?_update_other _ _ (Ne.symm hb)).trans e)) k2
theorem xU {a:Addr}{ms:List Str}{Q:List Value->Shared->Prop}(hh:A.handled=none)(hS:Is w s.heap a ms)(hz:ms.length<=sizeLine)
  (hQ:∀ s' vs ss,(∀ b o,s.heap.get? b=some o->s'.heap.get? b=some o)->s'.gens=s.gens->s'.os=s.os->StrsAre vs ss->ss.Perm ms->Q vs s'):wpAny (model prog w) A (collect (.ref a)) Q E s:=by
 have hlt:=Heap.lt_size hS.there.choose_spec
 unfold collect
 refine wpAny_bind (wpAny_runValue (codeAny_builtin F.entry_proto_collect ?_))
 rw [Around.under_plainId F.plain_proto_collect]
 refine wpAny_bind (m:=newList []) (wpAny_newObj_type (wpAny_pure ⟨plainId_quiet F.plain_list_iadd _,codeAny_builtin F.entry_list_iadd ?_⟩))
 rw [Around.under_plainId F.plain_list_iadd]
 have hSl:(s.heap.push { cls:=.type "list",data:=.seq #[] }).get? s.heap.objs.size=some { cls:=.type "list",data:=.seq #[] }:=Heap.get?_push_size _ rfl
 have go:∀ R:Result->Shared->Prop,(∀ s' acc' c' ss,(∀ b o,s.heap.get? b=some o->s'.heap.get? b=some o)->s'.gens=s.gens->s'.os=s.os->s'.heap.get? s.heap.objs.size=some { cls:=.type "list",dict:=none,data:=.seq acc' c',slots:=#[] }->StrsAre acc'.toList ss->ss.Perm ms->R (.ok (.ret (.ref s.heap.objs.size))) s') ->
   wpAny (model prog w) A.in1 (Builtin.List.listExtendWith (.ref s.heap.objs.size) (.ref a) (.ref s.heap.objs.size))
    (fun fin s'=>match fin with | .done f=>R (.ok f) s' | .again c'=>c'.quiet=true∧codeAny (model prog w) A c' R s') (fun e s'=>R (.error e) s') { s with heap:=s.heap.push { cls:=.type "list",data:=.seq #[] } }:=fun R hR =>
  Ai (A:=A) (s:={ s with heap:=s.heap.push { cls:=.type "list",data:=.seq #[] } }) hh (hS.at fun o e=>Heap.get?_push_of_some _ e) hz s.heap.objs.size (.ref s.heap.objs.size) (Nat.ne_of_gt hlt) hSl
   fun s' acc' c' ss kp g1 g2 e1 e2 e3=>hR s' acc' c' ss (fun b o e=>kp b o (Nat.ne_of_lt (Heap.lt_size e)) (Heap.get?_push_of_some _ e)) g1 g2 e1 e2 e3
 refine go (fun r s'=>match r with
  | .ok (.ret v)=>wpAny (model prog w) A (match v with
   | .ref a=>do
    match (<- load a).data with
    | .seq xs _=>pure xs.toList
    | _=>unsupported "internal:collect"
   | _=>unsupported "internal:collect") Q E s'
  | .ok _=>False
  | .error e=>E e s') fun s' acc' c' ss kp g1 g2 hS' e2 e3=>?_
 refine wpAny_bind (m:=load s.heap.objs.size) (wpAny_load hS' (wpAny_pure ?_))
 exact hQ s' acc'.toList ss kp g1 g2 e2 e3
theorem Ck (a:Value){Q₁:Value->Shared->Prop}(h:Q₁ (.ref s.heap.objs.size) { s with heap:=s.heap.push (dE w) }):codeAny (model prog w) A (.call (.builtin "set.__new__") ⟨[.type "set",a],[]⟩) (wants Q₁ E) s:=by
 refine codeAny_of_tree (show wpAny _ A.in1 (do checkBuiltinCall "set.__new__" ⟨[.type "set",a],[]⟩;again (.builtin "set.__new__" ⟨[.type "set",a],[]⟩)) _ _ s from ?_)
 refine wpAny_bind (wpAny_of_eq (F.newCall_set_1 a) (wpAny_pure ⟨plainId_quiet F.plain_set_new _,codeAny_builtin F.entry_set_new ?_⟩))
 rw [Around.under_plainId F.plain_set_new _]
 unfold Builtin.«set.__new__» Builtin.Frozenset.newClass
 have hsub:=sub_set_self
 obtain ⟨hp,g,d,tk,os⟩:=s
 dsimp only
 wp_walk
 refine wpAny_askSetting (wpAny_pure ?_)
 dsimp only
 simp only [newObj]
 refine wpAny_bind (wpAny_alloc (wpAny_pure (wpAny_pure h)))
end
end SS
namespace L2
open PySem PySem.Spec PyProof.Rows
namespace SE
def Of (w:World)(h:Heap)(D:Addr)(ls:List (List Nat))(i:Nat):Prop:=∃ ms,SS.Is w h D ms∧(∀ x,x∈ms↔x∈(ls.take i).map tx)∧ms.length<=i
theorem Of.at {w:World}{h h':Heap}{D:Addr}{ls:List (List Nat)}{i:Nat}(x:Of w h D ls i)(k:∀ o,h.get? D=some o->h'.get? D=some o):Of w h' D ls i:=let ⟨ms,a,b⟩:=x;⟨ms,a.at k,b⟩
section
variable {prog:Program}{w:World}{A:Around}{R:Result->Shared->Prop}{J:Addr}{fp wr:List Addr}{G:Array GenState->Array GenState->Prop}{n:Nat}{P:Nat->Value->Prop}{St:Nat->Shared->Prop}
theorem Nv (W:WalksS prog w A.in1 J fp wr G n P St){D:Addr}(hD:D∉fp)(ls:List (List Nat))(hv:∀ i v,P i v->∃ t,v=Value.str (tx (ls.getD i [])) t)(hn:n+1<scanBound)(hnl:n<=ls.length) :
  ∀ (k i:Nat) (s:Shared),n-i=k->i<=n->St i s->Of w s.heap D ls i ->
   (∀ s',Moved (D::wr) G s s'->Of w s'.heap D ls n->R (.ok (.ret .none)) s')->codeAny (model prog w) A (.builtin "set.update.loop" ⟨[.ref D,.ref J],[]⟩) R s:=by
 have hDw:D∉wr:=fun z=>hD (W.sub _ z)
 have up:∀ b∈wr,b∈D::wr:=fun b hb=>.tail _ hb
 intro k
 induction k with
 | zero =>
  intro i s hk hi st hs hR
  obtain rfl:i=n:=by omega
  refine codeAny_builtin PyProof.Rows.F.entry_set_update_loop ?_
  rw [Around.under_plainId PyProof.Rows.F.plain_set_update_loop]
  refine wpAny_bind (m:=pyNext (.ref J)) (W.done s _ _ st fun s2 mv=>?_)
  exact (show wpAny _ A.in1 (ret Value.none) _ _ s2 from wpAny_pure (hR s2 (mv.mono up) (hs.at fun o e=>mv.heap D o hDw e)))
 | succ k ih =>
  intro i s hk hi st hs hR
  have hlt:i<n:=by omega
  refine codeAny_builtin PyProof.Rows.F.entry_set_update_loop ?_
  rw [Around.under_plainId PyProof.Rows.F.plain_set_update_loop]
  refine wpAny_bind (m:=pyNext (.ref J)) (W.item i s _ _ hlt st fun v s2 pv st2 mv=>?_)
  obtain ⟨t,rfl⟩:=hv i v pv
  have hs2:=hs.at fun o e=>mv.heap D o hDw e
  refine wpAny_bind (m:=holding [Value.str (tx (ls.getD i [])) t] (setAdd D (.str (tx (ls.getD i [])) t))) (wpAny_holding ?_)
  unfold setAdd
  refine wpAny_holding (wpAny_bind ((PySem.strKind prog w).pyHash (k:=tx (ls.getD i [])) (strKind_is _ _ _ _) ?_))
  obtain ⟨ms,hi1,hi2,hi3⟩:=hs2
  refine SS.Ex (s:={ s2 with toks:=s2.toks+1 }) hi1 (by omega) fun h3 ms3 sb i3 m3 l3=>?_
  have x4:Of w h3 D ls (i+1):=by
   refine ⟨ms3,i3,fun x=>?_,by omega⟩
   have e:ls.take (i+1)=ls.take i++[ls.getD i []]:=by
    rw [List.take_add_one,List.getD_eq_getElem?_getD,List.getElem?_eq_getElem (by omega)]
    rfl
   rw [m3,hi2,e,List.map_append,List.mem_append,List.map_cons,List.map_nil,List.mem_singleton]
  refine wpAny_pure ⟨plainId_quiet PyProof.Rows.F.plain_set_update_loop _,ih (i+1) _ (by omega) hlt (W.frame _ s2 _ _ st2 (Nat.le_succ _) fun b hb o e=>(sb.2 b fun z=>hD (z▸hb)).trans e) x4 fun s5 m5 x5=>?_⟩
  refine hR s5 (Moved.trans W.gtrans ((mv.mono up).then_heap (Nat.le_succ _) fun b o hb e=>(sb.2 b fun z=>hb (z▸.head _)).trans e) m5) x5
variable {E:Value->Shared->Prop}{s:Shared}
theorem Gc {l:Addr}{its:Array Value}{ls:List (List Nat)}{Q:Value->Shared->Prop}(hh:A.handled=none)(hl:s.heap.IsList l its)(hv:∀ i v,its[i]?=some v->∃ t,v=Value.str (tx (ls.getD i [])) t)(hn:its.size+1<scanBound)(hnl:its.size<=ls.length)
  (h:∀ (h':Heap) (tk:Nat),Of w h' s.heap.objs.size ls its.size->(∀ b o,s.heap.get? b=some o->h'.get? b=some o)->Q (.ref s.heap.objs.size) { s with heap:=h',toks:=tk }) :
  wpAny (model prog w) A (call (.type "set") [.ref l]) Q E s:=by
 obtain ⟨mc,mt,f0⟩:=F.called_set.mro
 have f1:=F.called_set.made;have f2:=F.called_set.sub;have f3:=F.called_set.notType;have f4:=F.called_set.canCreate;have f5:=F.typeCall_set_1 (.ref l)
 refine wpAny_call (codeAny_of_tree (show wpAny _ _ (callAny (.type "set") _) _ _ _ from wpAny_pure ⟨Code.quiet_builtin _ (by decide +kernel),codeAny_builtin F.entry_type_call ?_⟩))
 rw [Around.under_plain (weight_type_call_type "set" [.ref l] []) rfl]
 repeat (any_goals (first | wp_step | assumption))
 refine codeAny_mono (SS.Ck (.ref l) (E:=E) (Q₁:=fun ob s1=>ob = .ref s.heap.objs.size∧s1 = { s with heap:=s.heap.push (SS.dE w) }) ⟨rfl,rfl⟩) fun r s1 hr=>?_
 cases r with
 | error e=>exact hr
 | ok fl =>
  cases fl with
  | ret ob =>
   obtain ⟨rfl,rfl⟩:=hr
   generalize hob:SS.dE w=ob
   have hD:(s.heap.push ob).get? s.heap.objs.size=some ob:=Heap.get?_push_size _ (by rw [<- hob];rfl)
   have hT:Shared.TypeIs { s with heap:=s.heap.push ob } (.ref s.heap.objs.size) "set" := ⟨_,hD,by rw [<- hob];rfl⟩
   have f6:=F.called_set.init.lookup;have f7:=F.called_set.init.bind (.ref s.heap.objs.size)
   repeat (any_goals (first | wp_step | assumption))
   refine codeAny_mono (codeAny_call_builtin (R:=wants (fun r s2=>r = .none∧∃ h' tk,s2 = { s with heap:=h',toks:=tk }∧Of w h' s.heap.objs.size ls its.size∧∀ b o,s.heap.get? b=some o->h'.get? b=some o) E)
    F.called_set.init.plain F.entry_set_init (check_set_init_1 hT ?_)) fun r2 s2 hr2=>?_
   ·obtain ⟨⟨oc,od,odt,osl⟩,hol,hcl,nl,hdl⟩:=id hl
    simp only at hcl hdl
    subst hcl hdl
    have hol':(s.heap.push ob).get? l=some { cls:=.type "list",dict:=od,data:=.seq its nl,slots:=osl }:=Heap.get?_push_of_some _ hol
    have f8:=F.sub_list_set;have f9:=F.sub_list_frozenset
    have f10:(Value.type "list" == Value.type "dict")=false:=by decide
    have hl1:(s.heap.push ob).IsList l its:=⟨_,hol',rfl,nl,rfl⟩
    subst hob
    unfold Builtin.«set.__init__» noKeywords Builtin.Frozenset.updateFrom
    generalize hPI:pyIter=PI
    wp_walk
    subst hPI
    refine wpAny_pyIter_list hl1 ?_
    refine wpAny_bind (wpAny_runValue ?_)
    have hlt:l<s.heap.objs.size:=Heap.lt_size hol
    have hh3:A.in1.in1.in1.handled=none:=by simp [hh]
    have hsz:(s.heap.push (SS.dE w)).objs.size=s.heap.objs.size+1:=Heap.size_push _ _
    have hne:l≠(s.heap.push (SS.dE w)).objs.size:=by rw [hsz];exact Nat.ne_of_lt (Nat.lt_succ_of_lt hlt)
    have hfp:s.heap.objs.size∉[(s.heap.push (SS.dE w)).objs.size,l]:=by
     rw [hsz]
     intro z
     rcases List.mem_cons.mp z with e | e
     ·exact Nat.ne_of_lt (Nat.lt_succ_self _) e
     ·exact Nat.ne_of_gt hlt (List.mem_singleton.mp e)
    refine Nv ((Walks.list hh3 _ l hne its).toS) (D:=s.heap.objs.size) hfp ls hv hn hnl (its.size-0) 0 _ (by omega) (Nat.zero_le _) ⟨⟨_,Heap.get?_push_size _ rfl,rfl,rfl⟩,hl1.push _⟩ ?_ fun s3 mv x3=>?_
    ·have hg:((s.heap.push (SS.dE w)).push { cls:=.type "list_iterator",data:=.fields #[.ref l,.int 0 0] }).get? s.heap.objs.size=some (SS.dE w):=Heap.get?_push_of_some _ hD
     exact ⟨[],(SS.Is.fresh s.heap).at fun o e=>Heap.get?_push_of_some _ e,fun x=>by simp,Nat.zero_le _⟩
    ·obtain ⟨h3,g3,d3,tk3,os3⟩:=s3
     obtain rfl:g3=s.gens:=mv.gens
     obtain rfl:d3=s.drawn:=mv.drawn
     obtain rfl:os3=s.os:=mv.os
     refine wpAny_pure (show wpAny _ _ (ret Value.none) _ _ _ from wpAny_pure ⟨rfl,h3,tk3,rfl,x3,fun c o e=>?_⟩)
     have hc:=Heap.lt_size e
     exact mv.heap c o (show c∉[s.heap.objs.size,(s.heap.push (SS.dE w)).objs.size] by
      rw [hsz]
      intro z
      rcases List.mem_cons.mp z with e | e
      ·exact Nat.ne_of_lt hc e
      ·exact Nat.ne_of_lt (Nat.lt_succ_of_lt hc) (List.mem_singleton.mp e)) (Heap.get?_push_of_some _ (Heap.get?_push_of_some _ e))
   ·cases r2 with
    | error e=>exact hr2
    | ok fl2 =>
     cases fl2 with
     | ret r =>
      obtain ⟨rfl,h3,tk,rfl,x3,k3⟩:=hr2
      repeat (any_goals (first | wp_step | assumption))
      exact h _ _ x3 k3
     | _=>exact hr2.elim
  | _=>exact hr.elim
end
end SE
def jU (w:World)(D:Addr)(ms:List (List Nat)):HO:=.ext fun h=>SS.Is w h D (ms.map tx)
theorem pD {ls:List (List Nat)}{x:Str}:x∈ls.map tx↔x.cps.toList∈ls:=by
 rw [List.mem_map]
 constructor
 ·rintro ⟨l,h,rfl⟩
  rw [eJ]
  exact h
 ·intro h
  exact ⟨_,h,iL x⟩
theorem Ip {w:World}{h:Heap}{D:Addr}{ms ms':List Str}(x:SS.Is w h D ms)(p:ms.Perm ms'):SS.Is w h D ms':=by
 obtain ⟨o,es,ep,t,ho,hex,hd,hel,hnd,r⟩:=x
 exact ⟨o,es,ep,t,ho,hex,hd,⟨hel.1,hel.2.trans p⟩,p.nodup_iff.mp hnd,r⟩
theorem uY {w:World}{h:Heap}{D:Addr}{ms:List Str}(x:SS.Is w h D ms):ms.Nodup:=let ⟨_,_,_,_,_,_,_,_,n,_⟩:=x;n
theorem Fn {ls:List (List Nat)}(h:ls.Nodup):(ls.map tx).Nodup:=by
 refine List.pairwise_map.mpr (h.imp fun hne e=>hne (fU e))
section
variable {X:Cx}
theorem uA {pins:List (Addr×Obj)}{σ:St}{H:Hp}{s:Shared}{D:Addr}{ms:List (List Nat)}(I:Inv X pins σ H s)(h:H D=some (jU X.w D ms)):SS.Is X.w s.heap D (ms.map tx):=by
 obtain ⟨x,_⟩:=(show cG X.prog X.w H s.heap D (jU X.w D ms) from I.hok D _ h)
 exact x
theorem lZ (hc:X.calm=true):eO X (.type "set") (fun xs H Q=>∃ (p:Addr) (ls:List (List Nat)),xs=[.ref p]∧SqL X.K H p (ls.map T)∧ls.length+1<4096∧∀ D,H D=none->Q (.ref D) (upd H D (jU X.w D (gQ ls)))):=by
 intro pins s σ H xs us Q I r h
 obtain ⟨p,ls,rfl,hq,hz,q⟩:=h
 obtain ⟨u,rfl,ru⟩:=fV r
 cases ru
 obtain ⟨its,rv,pl,_⟩:=I.list hq
 have hlen:=rv.length
 rw [List.length_map] at hlen
 refine SE.Gc (I.ok.hd hc) pl.isList (ls:=ls) (fun i v e=>Eh rv (by simpa using e)) (by rw [List.size_toArray];unfold scanBound;omega) (by rw [List.size_toArray];omega) fun h' tk x k=>?_
 obtain ⟨ms,i1,i2,_⟩:=x
 have x:SS.Is X.w h' s.heap.objs.size ((gQ ls).map tx):=by
  refine Ip i1 ((List.perm_ext_iff_of_nodup (uY i1) (Fn (oP ls))).mpr fun y=>?_)
  rw [i2,pD,pD,gX,List.size_toArray,<- hlen,List.take_length]
 have hf:H s.heap.objs.size=none:=I.hok.fresh (Nat.le_refl _)
 refine ⟨.ref s.heap.objs.size,_,I.laid (t':=tk) k (Nat.le_refl _) (o:=jU X.w s.heap.objs.size (gQ ls)) ⟨x,x.there,fun h1 h2 x1 kk=>x1.at kk⟩,rfl,q _ hf⟩
theorem Lj:OpR X (binaryOp .BitOr) (fun x y H Q=>∃ (a b:Addr) (ls ms:List (List Nat)),x = .ref a∧y = .ref b∧a≠b∧H a=some (jU X.w a ls)∧H b=some (jU X.w b ms)∧ls≠[]∧ls.length+ms.length<=128 ∧
  ∀ (D:Addr) (qs:List (List Nat)),H D=none->qs.Nodup->qs.length<=ls.length+ms.length->(∀ z,z∈qs↔z∈ls∨z∈ms)->Q (.ref D) (upd H D (jU X.w D qs))):=by
 intro pins s σ H x y v u Q I rx ry h
 obtain ⟨a,b,ls,ms,rfl,rfl,hab,h1,h2,hne,hsz,q⟩:=h
 cases rx
 cases ry
 refine SS.Pi hab (uA I h1) (uA I h2) (fun z=>hne (List.map_eq_nil_iff.mp z)) (by rw [List.length_map,List.length_map];exact hsz) fun h' ms' kp i hm hl=>?_
 have em:(ms'.map fun x=>x.cps.toList).map tx=ms':=by
  rw [List.map_map]
  conv=>rhs;rw [<- List.map_id ms']
  exact List.map_congr_left fun x _=>iL x
 have hnd:(ms'.map fun x=>x.cps.toList).Nodup:=List.pairwise_map.mpr ((uY i).imp fun {a b} hne e=>hne ((iL a).symm.trans ((congrArg tx e).trans (iL b))))
 have x:SS.Is X.w h' s.heap.objs.size ((ms'.map fun x=>x.cps.toList).map tx):=by rw [em];exact i
 refine ⟨.ref s.heap.objs.size,_,I.laid (t':=s.toks) kp (Nat.le_refl _) (o:=jU X.w s.heap.objs.size (ms'.map fun x=>x.cps.toList)) ⟨x,x.there,fun h1 h2 x1 kk=>x1.at kk⟩,rfl,q _ _ (I.hok.fresh (Nat.le_refl _)) hnd (by rw [List.length_map];rw [List.length_map,List.length_map] at hl;exact hl) fun z=>?_⟩
 have e:=hm (tx z)
 rw [pD,pD,eJ] at e
 rw [<- e,<- em,pD,eJ,em]
theorem lG (hc:X.calm=true):eO X (.builtin "sorted") (fun xs H Q=>∃ (p:Addr) (ls:List (List Nat)),xs=[.ref p]∧H p=some (jU X.w p ls)∧ls.length<=4096∧∀ (ms:List (List Nat)) (D:Addr),H D=none->ms.Perm ls->ms.Pairwise (fun a b=>¬ b<a)->Q (.ref D) (upd H D (.lst (ms.map T)))):=by
 intro pins s σ H xs us Q I r h
 obtain ⟨p,ls,rfl,hq,hz,q⟩:=h
 obtain ⟨u,rfl,ru⟩:=fV r
 cases ru
 have hs:sizeLine=16777216:=sizeLine_eq
 refine qM (by omega) (fun A' Q' hA hQ=>SS.xU (by rw [hA];exact I.ok.hd hc) (uA I hq) (by rw [List.length_map];omega) fun s' vs ss kp g1 g2 e1 e2=>hQ vs ss s' e1 e2 ?_) q
 have hg:AllBare s'.gens:=by rw [g1];exact I.bare
 exact I.call' (ch:=[]) g2 (Un.kept kp) (I.hok.kept kp) hg fun _ z=>nomatch z
end
end L2
namespace L2
open PySem PySem.Spec PyProof.Rows
set_option genInjectivity false in
structure lI (J:It)(H:Hp)(vs:List V):Prop where
 go:∀ i H',aN H H'->i<vs.length->J.go i H'
 yl:∀ i H' y H2,aN H H'->J.yld i H' y H2->H2=H'∧vs[i]?=some y
 st:∀ H',aN H H'->J.stop vs.length H'
theorem cQ {K:PySem.W.Frag}{a:Addr}{H:Hp}{vs:List V}(h:SqL K H a vs):lI (Itl K a) H vs :=
 ⟨fun i H' s hi=>⟨vs,vs[i],s.seq h,List.getElem?_eq_getElem hi⟩,fun i H' y H2 s ⟨e1,e2⟩=>⟨e1,e2 vs (s.seq h)⟩,fun H' s=>⟨vs,s.seq h,Nat.le_refl _⟩⟩
theorem Ed {K:PySem.W.Frag}{H H':Hp}{p:Addr}{xs:List V}(s:aN H H')(h:SqT K H p xs):SqT K H' p xs:=by
 rcases h with (h | ⟨q,h⟩) | h
 ·exact .inl (.inl (s _ _ h))
 ·exact .inl (.inr ⟨q,s _ _ h⟩)
 ·exact .inr h
theorem lU {K:PySem.W.Frag}{a:Addr}{H:Hp}{vs:List V}(h:SqT K H a vs):lI (Itt K a) H vs :=
 ⟨fun i H' s hi=>⟨vs,vs[i],Ed s h,List.getElem?_eq_getElem hi⟩,fun i H' y H2 s ⟨e1,e2⟩=>⟨e1,e2 vs (Ed s h)⟩,fun H' s=>⟨vs,Ed s h,Nat.le_refl _⟩⟩
theorem oB {l:List Nat}{H:Hp}:lI (Itx l) H ((l.map fun c=>[c]).map T) :=
 ⟨fun i H' _ hi=>by (show i<l.length;simpa using hi),fun i H' y H2 _ ⟨e1,c,hc,e2⟩=>⟨e1,by rw [List.getElem?_map,List.getElem?_map,hc,e2];rfl⟩,fun H' _=>by show l.length<=_;simp⟩
theorem jZ {J:It}{vs:List V}{te:TE}{σ:St}{H:Hp}{Q:VK}(f:V->V)(rd:lI J H vs)(hn:vs.length<=sizeLine)
  (he:∀ x H',x∈vs->aN H H'->∀ N:V->Hp->Prop,(∀ H'',aN H' H''->N (f x) H'')->te (some x::σ) H' N)
  (hq:∀ D H',H D=none->aN H H'->H' D=some (.lst (vs.map f))->Q (.ref D) H'):iI te σ Q J H:=by
 intro D hD
 refine ⟨fun i m ys H2=>m=vs.length-i∧i<=vs.length∧ys=(vs.take i).map f∧aN H H2∧H2 D=some (.lst ys),⟨vs.length,rfl,Nat.zero_le _,rfl,fun b o e=>?_,aC⟩,?_⟩
 ·rw [aI (aK e hD)]
  exact e
 ·rintro i m ys H2 ⟨rfl,hi,rfl,hs,hd⟩
  by_cases hlt:i<vs.length
  ·have hx:vs[i]?=some vs[i]:=List.getElem?_eq_getElem hlt
   refine .inr ⟨rd.go i H2 hs hlt,by rw [List.length_map,List.length_take];omega,fun v H'=>v=f vs[i]∧aN H2 H',fun v H' ⟨ev,hs'⟩=>⟨hs' D _ hd,vs.length-(i+1),by omega,rfl,hlt,?app,fun b o e=>?kp,aC⟩,fun y H' hy=>?stp⟩
   case app =>
    rw [ev,List.take_add_one,hx,List.map_append]
    rfl
   case kp =>
    rw [aI (aK e hD)]
    exact hs' b o (hs b o e)
   case stp =>
    obtain ⟨rfl,e2⟩:=rd.yl i H2 y H' hs hy
    have e4:y=vs[i]:=by rw [hx] at e2;exact (Option.some.inj e2).symm
    subst e4
    exact he _ _ (List.getElem_mem hlt) hs _ fun H'' h''=>⟨rfl,h''⟩
  ·have e:i=vs.length:=by omega
   subst e
   rw [List.take_length] at hd
   exact .inl ⟨rd.st H2 hs,hq D H2 hD hs hd⟩
theorem Go {J:It}{vs:List V}{tc:TT}{te:TE}{σ:St}{H:Hp}{Q:VK}(p:V->Bool)(f:V->V)(rd:lI J H vs)(hn:vs.length<=sizeLine)
  (ht:∀ x H',x∈vs->aN H H'->∀ N:Bool->Hp->Prop,(∀ H'',aN H' H''->N (p x) H'')->tc (some x::σ) H' N)
  (he:∀ x H',x∈vs->p x=true->aN H H'->∀ N:V->Hp->Prop,(∀ H'',aN H' H''->N (f x) H'')->te (some x::σ) H' N)
  (hq:∀ D H',H D=none->aN H H'->H' D=some (.lst ((vs.filter p).map f))->Q (.ref D) H'):eQ tc te σ Q J H:=by
 intro D hD
 refine ⟨fun i m ys H2=>m=vs.length-i∧i<=vs.length∧ys=((vs.take i).filter p).map f∧aN H H2∧H2 D=some (.lst ys),⟨vs.length,rfl,Nat.zero_le _,rfl,fun b o e=>?_,aC⟩,?_⟩
 ·rw [aI (aK e hD)]
  exact e
 ·rintro i m ys H2 ⟨rfl,hi,rfl,hs,hd⟩
  by_cases hlt:i<vs.length
  ·have hx:vs[i]?=some vs[i]:=List.getElem?_eq_getElem hlt
   refine .inr ⟨rd.go i H2 hs hlt,by have:=iN p vs i;rw [List.length_map];omega,fun v H'=>v=f vs[i]∧p vs[i]=true∧aN H2 H',fun v H' ⟨ev,hp,hs'⟩=>⟨hs' D _ hd,vs.length-(i+1),by omega,rfl,hlt,?app,fun b o e=>?kp,aC⟩,
    fun H'=>p vs[i]=false∧aN H2 H',fun H' ⟨hp,hs'⟩=>⟨vs.length-(i+1),by omega,rfl,hlt,?skp,fun b o e=>hs' b o (hs b o e),hs' D _ hd⟩,fun y H' hy=>?stp⟩
   case app =>
    rw [ev,gL p vs i _ hx,hp,List.map_append]
    rfl
   case kp =>
    rw [aI (aK e hD)]
    exact hs' b o (hs b o e)
   case skp =>
    rw [gL p vs i _ hx,hp]
    simp
   case stp =>
    obtain ⟨rfl,e2⟩:=rd.yl i H2 y H' hs hy
    have e4:y=vs[i]:=by rw [hx] at e2;exact (Option.some.inj e2).symm
    subst e4
    refine ht _ _ (List.getElem_mem hlt) hs _ fun H'' h''=>?_
    by_cases hp:p vs[i]=true
    ·rw [if_pos hp]
     exact he _ _ (List.getElem_mem hlt) hp (hs.trans h'') _ fun H3 h3=>⟨rfl,hp,h''.trans h3⟩
    ·rw [if_neg hp]
     exact ⟨by simpa using hp,h''⟩
  ·have e:i=vs.length:=by omega
   subst e
   rw [List.take_length] at hd
   exact .inl ⟨rd.st H2 hs,hq D H2 hD hs hd⟩
def unT:V->List Nat
 | .str x=>x.cps.toList
 | _=>[]
theorem fH (l:List Nat):unT (T l)=l:=eJ l
section
variable {X:Cx}
theorem qE (K:PySem.W.Frag)(h:X.K=K):OpR X (compareOp .NotIn) (rIn K true):=by subst h;exact iD
end
theorem iC {f:List Nat->V}(ls:List (List Nat)):(ls.map T).map (fun x=>f (unT x))=ls.map f:=by
 rw [List.map_map]
 exact List.map_congr_left fun l _=>by show f (unT (T l))=f l;rw [fH]
theorem kE {p:List Nat->Bool}:∀ ls:List (List Nat),(ls.map T).filter (fun x=>p (unT x))=(ls.filter p).map T
 | []=>rfl
 | l::ls=>by
  rw [List.map_cons,List.filter_cons,List.filter_cons,fH,kE ls]
  split <;> rfl
end L2
namespace SS
open PySem PyProof.Rows L2
section
variable {prog:Program}{w:World}{A:Around}{E:Value->Shared->Prop}{s:Shared}
theorem Fv {a:Addr}{Q:Bool->Shared->Prop}(hS:s.TypeIs (.ref a) "dict")(h:Q false s):wpAny (model prog w) A (Builtin.List.listLengthHint (.ref a)) Q E s:=by
 unfold Builtin.List.listLengthHint
 refine wpAny_bind (wpAny_specialOf hS F.slot_dict_len.lookup ?_)
 generalize hid:("dict.__len__" : String)=id0
 wp_delta
 rw [show splitId id0=some ("dict", "__len__") from by subst hid;decide +kernel]
 subst hid
 refine wpAny_bind (wpAny_isInstance (T := "dict") (b:=true) hS F.sub_dict_dict ?_)
 refine wpAny_ite_split (fun hab=>absurd hab (by decide)) (fun _=>?_)
 refine wpAny_ite_split (fun _=>?_) (fun hab=>absurd (by decide +kernel) hab)
 refine wpAny_bind (wpAny_typeOf hS ?_)
 exact wpAny_pure h
def rK (vs:List (Key×Value))(i:Nat)(v:Value):Prop:=∃ k x,vs[i]?=some (k,x)∧pJ k v=true
theorem oM {h:Heap}{a:Addr}{vs:List (Key×Value)}{ep:Nat}{ob:Obj}(hD:Heap.DictAt (bN prog w) h a vs ep):Heap.DictAt (bN prog w) (h.push ob) a vs ep:=by
 obtain ⟨o,es,g,r⟩:=hD
 exact ⟨o,es,Heap.get?_push_of_some _ g,r⟩
theorem Eb {a:Addr}{vs:List (Key×Value)}{ep:Nat}(hD:Heap.DictAt (bN prog w) s.heap a vs ep):s.TypeIs (.ref a) "dict" := by
 obtain ⟨o,es,g,r⟩:=hD
 exact (show Heap.DictOf (bN prog w) s.heap a vs from ⟨o,es,ep,g,r⟩).typeIs
theorem oG {a:Addr}{vs:List (Key×Value)}{ep:Nat}{R:Result->Shared->Prop}(hh:A.handled=none)(hd:(a==sysModules)=false)(hD:Heap.DictAt (bN prog w) s.heap a vs ep)(hz:vs.length<=sizeLine)(S:Addr)(res:Value)(h1:S≠a)(hSl:s.heap.get? S=some { cls:=.type "list",data:=.seq #[] })
  (hR:∀ s' acc' c',(∀ b o,b≠S->s.heap.get? b=some o->s'.heap.get? b=some o)->s'.gens=s.gens->s'.os=s.os->s'.heap.get? S=some { cls:=.type "list",dict:=none,data:=.seq acc' c',slots:=#[] }->ItemsOf (rK vs) acc' vs.length->R (.ok (.ret res)) s') :
  wpAny (model prog w) A.in1 (Builtin.List.listExtendWith (.ref S) (.ref a) res)
   (fun fin s'=>match fin with | .done f=>R (.ok f) s' | .again c'=>c'.quiet=true∧codeAny (model prog w) A c' R s') (fun e s'=>R (.error e) s') s:=by
 unfold Builtin.List.listExtendWith
 refine wpAny_bind (wpAny_typeOf (Eb hD) ?_)
 have g1:Builtin.List.listSameRef (.ref S) (.ref a)=false:=by simp [Builtin.List.listSameRef,h1]
 have g2:(Value.type "dict" == Value.type "list")=false:=by decide
 have g3:(Value.type "dict" == Value.type "tuple")=false:=by decide
 simp only [g1,g2,g3,Bool.or_false,Bool.false_eq_true,if_false]
 refine wpAny_bind (wpAny_pyIter_dict hd hD ?_)
 have hlt:=Heap.lt_size hSl
 have hal:a<s.heap.objs.size:=by obtain ⟨o,es,g,r⟩:=hD;exact Heap.lt_size g
 generalize hio:({ cls:=Value.type "dict_keyiterator",data:=Data.fields #[Value.ref a,Value.int 0 0,Value.int (↑vs.length) 0,Value.int (↑ep) 0] }:Obj)=io
 have hIs:s.heap.objs.size<=s.heap.objs.size:=Nat.le_refl _
 have hSI:S≠s.heap.objs.size:=Nat.ne_of_lt hlt
 have haI:a≠s.heap.objs.size:=Nat.ne_of_lt hal
 have kp:∀ b o,s.heap.get? b=some o->(s.heap.push io).get? b=some o:=fun b o e=>Heap.get?_push_of_some _ e
 have W:=Walks.dictKeys (prog:=prog) (w:=w) (knd:=bN prog w) (A:=A.in1) hh s.heap.objs.size a haI vs ep
 have hD2:Heap.DictAt (bN prog w) (s.heap.push io) a vs ep:=oM hD
 have st0:(s.heap.push io).IsKeyIter s.heap.objs.size a 0 vs.length ep∧Heap.DictAt (bN prog w) (s.heap.push io) a vs ep:=by
  refine ⟨⟨io,Heap.get?_push_size _ (by rw [<- hio];rfl),?_,?_⟩,hD2⟩
  ·rw [<- hio]
  ·rw [<- hio];rfl
 have hSf:S∉[s.heap.objs.size,a]:=by simp [hSI,h1]
 refine wpAny_bind (wpAny_holding (Fv (s:={ s with heap:=s.heap.push io }) (Eb (s:={ s with heap:=s.heap.push io }) hD2) ?_))
 have WS:=W.toS
 have last:∀ (h0:Heap) (c0:Nat),(∀ b o,b≠S->(s.heap.push io).get? b=some o->h0.get? b=some o)->h0.get? S=some { cls:=.type "list",data:=.seq #[] c0 } ->
   wpAny (model prog w) A.in1 (again (.builtin "list.extend.loop" ⟨[.ref S,.ref s.heap.objs.size,res],[]⟩))
    (fun fin s'=>match fin with | .done f=>R (.ok f) s' | .again c'=>c'.quiet=true∧codeAny (model prog w) A c' R s') (fun e s'=>R (.error e) s') { s with heap:=h0 }:=fun h0 c0 hk0 hS0=>by
  refine wpAny_pure ⟨plainId_quiet F.plain_extend_loop _,codeAny_extend_loopS WS (by omega) S hSf res vs.length 0 _ #[] c0 rfl (Nat.zero_le _) ?_ hS0 (ItemsOf.nil _) fun s' acc' c' hm hS' hacc=>?_⟩
  ·exact W.frame 0 (s.heap.push io) h0 st0 fun b hb o e=>hk0 b o (fun z=>hSf (z▸hb)) e
  ·refine hR s' acc' c' (fun b o hb e=>?_) hm.gens hm.os hS' hacc
   by_cases hbI:b=s.heap.objs.size
   ·subst hbI
    exact absurd (Heap.lt_size e) (Nat.not_lt.mpr hIs)
   ·exact hm.heap b o (by simp [hb,hbI]) (hk0 b o hb (kp b o e))
 refine wpAny_ite_split (fun _=>?_) (fun hab=>absurd (by decide +kernel) hab)
 refine wpAny_bind (wpAny_rule ?_)
 have hSl2:(s.heap.push io).get? S=some { cls:=.type "list",data:=.seq #[] }:=kp S _ hSl
 refine wpAny_bind (m:=((do updateSeq S (fun z=>z.push .none);updateSeq S (fun z=>z.pop)):Sem Unit)) (wpAny_bind (wpAny_updateSeq (s:={ s with heap:=s.heap.push io }) hSl2 rfl ?_))
 have k1:=Heap.get?_update_self (Obj.mapSeq (fun z=>z.push .none)) hSl2 rfl
 refine wpAny_updateSeq k1 rfl ?_
 have k2:=Heap.get?_update_self (Obj.mapSeq (fun z=>z.pop)) k1 rfl
 exact last _ _ (fun b o hb e=>(Heap.get?_update_other _ _ (Ne.symm hb)).trans ((Heap.get?_update_other _ _ (Ne.symm hb)).trans e)) k2
theorem wD {a:Addr}{vs:List (Key×Value)}{ep:Nat}{Q:List Value->Shared->Prop}(hh:A.handled=none)(hd:(a==sysModules)=false)(hD:Heap.DictAt (bN prog w) s.heap a vs ep)(hz:vs.length<=sizeLine)
  (hQ:∀ (s':Shared) (acc:Array Value),(∀ b o,s.heap.get? b=some o->s'.heap.get? b=some o)->s'.gens=s.gens->s'.os=s.os->ItemsOf (rK vs) acc vs.length->Q acc.toList s'):wpAny (model prog w) A (collect (.ref a)) Q E s:=by
 have hlt:a<s.heap.objs.size:=by obtain ⟨o,es,g,r⟩:=hD;exact Heap.lt_size g
 unfold collect
 refine wpAny_bind (wpAny_runValue (codeAny_builtin F.entry_proto_collect ?_))
 rw [Around.under_plainId F.plain_proto_collect]
 refine wpAny_bind (m:=newList []) (wpAny_newObj_type (wpAny_pure ⟨plainId_quiet F.plain_list_iadd _,codeAny_builtin F.entry_list_iadd ?_⟩))
 rw [Around.under_plainId F.plain_list_iadd]
 have hSl:(s.heap.push { cls:=.type "list",data:=.seq #[] }).get? s.heap.objs.size=some { cls:=.type "list",data:=.seq #[] }:=Heap.get?_push_size _ rfl
 have go:∀ R:Result->Shared->Prop,(∀ s' acc' c',(∀ b o,s.heap.get? b=some o->s'.heap.get? b=some o)->s'.gens=s.gens->s'.os=s.os->s'.heap.get? s.heap.objs.size=some { cls:=.type "list",dict:=none,data:=.seq acc' c',slots:=#[] }->ItemsOf (rK vs) acc' vs.length->R (.ok (.ret (.ref s.heap.objs.size))) s') ->
   wpAny (model prog w) A.in1 (Builtin.List.listExtendWith (.ref s.heap.objs.size) (.ref a) (.ref s.heap.objs.size))
    (fun fin s'=>match fin with | .done f=>R (.ok f) s' | .again c'=>c'.quiet=true∧codeAny (model prog w) A c' R s') (fun e s'=>R (.error e) s') { s with heap:=s.heap.push { cls:=.type "list",data:=.seq #[] } }:=fun R hR =>
  oG (A:=A) (s:={ s with heap:=s.heap.push { cls:=.type "list",data:=.seq #[] } }) hh hd (oM hD) hz s.heap.objs.size (.ref s.heap.objs.size) (Nat.ne_of_gt hlt) hSl
   fun s' acc' c' kp g1 g2 e1 e2=>hR s' acc' c' (fun b o e=>kp b o (Nat.ne_of_lt (Heap.lt_size e)) (Heap.get?_push_of_some _ e)) g1 g2 e1 e2
 refine go (fun r s'=>match r with
  | .ok (.ret v)=>wpAny (model prog w) A (match v with
   | .ref a=>do
    match (<- load a).data with
    | .seq xs _=>pure xs.toList
    | _=>unsupported "internal:collect"
   | _=>unsupported "internal:collect") Q E s'
  | .ok _=>False
  | .error e=>E e s') fun s' acc' c' kp g1 g2 hS' e2=>?_
 refine wpAny_bind (m:=load s.heap.objs.size) (wpAny_load hS' (wpAny_pure ?_))
 exact hQ s' acc' kp g1 g2 e2
end
end SS
namespace L2
open PySem PyProof.Rows
section
variable {X:Cx}
theorem Ae:∀ (ls:List Str) (us:List Value),us.length=ls.length->(∀ (i:Nat) (v:Value),us[i]?=some v->∃ x t,ls[i]?=some x∧v=Value.str x t)->StrsAre us ls
 | [],[],_,_=>.nil
 | [],_::_,h,_=>nomatch h
 | _::_,[],h,_=>nomatch h
 | y::ls,u::us,h,hp=>by
  obtain ⟨x,t,e1,e2⟩:=hp 0 u rfl
  have e3:y=x:=by simpa using e1
  rw [e2,<- e3]
  exact .cons _ _ (Ae ls us (by simpa using h) fun i v e=>by simpa using hp (i+1) v (by simpa using e))
theorem Cw:∀ {kvs:List (Key×V)} {vs:List (Key×Value)},KV kvs vs->vs.map (·.1)=kvs.map (·.1)
 | [],[],.nil=>rfl
 | _::_,_::_,.cons h r=>by rw [List.map_cons,List.map_cons,h.1,Cw r]
theorem qQ {ls:List (List Nat)}{kvs:List (Key×V)}{vs:List (Key×Value)}{acc:Array Value}(hk:kvs.map (·.1)=ls.map fun t=>Sum.inr (tx t))(r:KV kvs vs)(h:ItemsOf (SS.rK vs) acc vs.length):StrsAre acc.toList (ls.map tx):=by
 have e0:vs.map (·.1)=(ls.map tx).map Sum.inr:=by rw [Cw r,hk,List.map_map];rfl
 have el:vs.length=ls.length:=by have:=congrArg List.length e0;simpa using this
 refine Ae _ _ (by rw [Array.length_toList,h.1,el,List.length_map]) fun i v e=>?_
 obtain ⟨k,x,g1,g2⟩:=h.2 i v (by rw [<- Array.getElem?_toList];exact e)
 have g3:(vs.map (·.1))[i]?=some k:=by rw [List.getElem?_map,g1];rfl
 rw [e0,List.getElem?_map] at g3
 cases g4:(ls.map tx)[i]? with
 | none=>rw [g4] at g3;cases g3
 | some y =>
  rw [g4] at g3
  obtain rfl:Sum.inr y=k:=Option.some.inj g3
  rcases cO g2 with ⟨j,t,q1,_⟩ | ⟨z,t,q1,q2⟩
  ·cases q1
  ·cases q1
   exact ⟨y,t,rfl,q2⟩
theorem lF (hc:X.calm=true):eO X (.builtin "sorted") (fun xs H Q=>∃ (p:Addr) (ls:List (List Nat)) (kvs:List (Key×V)),xs=[.ref p]∧H p=some (.dK kvs)∧kvs.map (·.1)=ls.map (fun t=>Sum.inr (tx t))∧∀ (ms:List (List Nat)) (D:Addr),H D=none->ms.Perm ls->ms.Pairwise (fun a b=>¬ b<a)->Q (.ref D) (upd H D (.lst (ms.map T)))):=by
 intro pins s σ H xs us Q I r h
 obtain ⟨p,ls,kvs,rfl,hq,hk,q⟩:=h
 obtain ⟨u,rfl,ru⟩:=fV r
 cases ru
 obtain ⟨z,hd,vs,rel,dd⟩:=nA I.hok hq
 obtain ⟨o,es,ep,rest⟩:=dd
 have hl:ls.length=kvs.length:=by have:=congrArg List.length hk;simpa using this.symm
 refine qM (by rw [hl];exact z) (fun A' Q' hA hQ=>SS.wD (vs:=vs) (ep:=ep) (by rw [hA];exact I.ok.hd hc) hd ⟨o,es,rest⟩ (by rw [<- rel.length];exact z) fun s' acc kp g1 g2 e1=>hQ _ (ls.map tx) s' (qQ hk rel e1) (List.Perm.refl _) ?_) q
 have hg:AllBare s'.gens:=by rw [g1];exact I.bare
 exact I.call' (ch:=[]) g2 (Un.kept kp) (I.hok.kept kp) hg fun _ z=>nomatch z
end
end L2
namespace L2
open PySem PyProof.Rows PySem.Spec
namespace SE
section
variable {prog:Program}{w:World}{A:Around}{E:Value->Shared->Prop}{s:Shared}
end
end SE
section
variable {X:Cx}
end
end L2
namespace L2
open PySem PyProof.Rows PySem.Spec
section
variable {X:Cx}
end
end L2
namespace L2
open PySem PyProof.Rows PySem.Spec
section
variable {X:Cx}
end
end L2
namespace L2
open PySem PyProof.Rows PySem.Spec
section
variable {X:Cx}{pins:List (Addr×Obj)}{σ:List (Option V)}{H H':Hp}{s:Shared}{h':Heap}
theorem Inv.turnedL {t':Nat}{ch:List Addr}(I:Inv X pins σ H s)(k:∀ b o,b∉ch->s.heap.get? b=some o->h'.get? b=some o)(hf:∀ b∈ch,jB X pins H b):Inv X pins σ H { s with heap:=h',toks:=t' }:=by
 have nit:∀ b u,H b=some u->b∉ch:=fun b u e z=>by rw [(hf b z).1] at e;cases e
 refine I.step (g':=s.gens) (d':=s.drawn) (ch:=ch) (fun b hb=>?_) (fun b o _ _ hc e _=>k b o hc e) (fun b o _ _ hc e _=>⟨o.slots,k b o hc e⟩) (fun _ _ _ _ n=>n)
  (fun b o hc e=>⟨o,k b o hc e⟩) (fun _ _ e=>e) (fun _ _ _ e=>e) (fun b ps e=>⟨#[],by rw [e];simp⟩) (fun m hm=>?_) (fun b u e=>?_) I.bare
 ·obtain ⟨f0,f1,f2,f3,f4,f5⟩:=hf b hb
  exact ⟨f3,f1,f4,f5⟩
 ·obtain ⟨o,es,ep,ho,r⟩:=hm
  exact ⟨o,es,ep,k _ o (fun z=>(hf _ z).2.1 rfl) ho,r⟩
 ·refine (I.hok b u e).stay (fun c v hc q=>k c v ?_ q) (fun _ q=>q) fun _ _ q=>q
  rcases hc with z | z
  ·rw [z];exact nit b u e
  ·exact nit c _ z
end
def Itz (K:PySem.W.Frag)(a b:Addr):It :=
 ⟨fun i H=>∃ xs ys x y,SqL K H a xs∧SqL K H b ys∧xs[i]?=some x∧ys[i]?=some y,
  fun i H x H'=>∃ (T:Addr) (u v:V),x = .ref T∧H T=none∧H'=upd H T (.tup [u,v])∧(∀ xs,SqL K H a xs->xs[i]?=some u)∧∀ ys,SqL K H b ys->ys[i]?=some v,
  fun i H=>∃ xs ys,SqL K H a xs∧SqL K H b ys∧(xs.length<=i∨ys.length<=i)⟩
theorem Dk {P:Program}{w:World}{K:PySem.W.Frag}{elts:List Expr}{x1}{pos:Pos}{a b z TI TO i1 i2:Addr}(D:ZipApart z TI TO i1 i2 a b) :
  pA P w K (.Tuple elts x1 pos) (Itz K a b) [z,TI,TO,i1,i2] z (fun i h=>IsZip h z TI TO .none∧IsPair h TI (.ref i1) (.ref i2)∧(∃ u v,IsPair h TO u v)∧h.IsListIter i1 a i∧h.IsListIter i2 b i) where
 mem:=by simp
 obj:=fun i h st c hc=>by
  obtain ⟨h1,h2,⟨u,v,h3⟩,⟨o4,e4,c4,d4⟩,⟨o5,e5,c5,d5⟩⟩:=st
  simp only [List.mem_cons,List.not_mem_nil,or_false] at hc
  rcases hc with rfl | rfl | rfl | rfl | rfl
  ·exact ⟨_,h1,fun v z=>by cases z⟩
  ·exact ⟨_,h2,fun v z=>by cases z⟩
  ·exact ⟨_,h3,fun v z=>by cases z⟩
  ·exact ⟨_,e4,fun v z=>by rw [d4] at z;cases z⟩
  ·exact ⟨_,e5,fun v z=>by rw [d5] at z;cases z⟩
 keep:=fun i h h' st k=>by
  obtain ⟨h1,h2,⟨u,v,h3⟩,h4,h5⟩:=st
  exact ⟨k z (by simp) _ h1,k TI (by simp) _ h2,⟨u,v,k TO (by simp) _ h3⟩,h4.at fun o e=>k i1 (by simp) o e,h5.at fun o e=>k i2 (by simp) o e⟩
 item:=by
  intro X hP hw hK hc i pins s σ H E I hf st hg
  subst hP hw hK
  obtain ⟨xs,ys,x,y,hq1,hq2,hx,hy⟩:=hg
  obtain ⟨its,rv,p,hz⟩:=I.list hq1
  obtain ⟨its2,rv2,p2,hz2⟩:=I.list hq2
  obtain ⟨u,hu,ru⟩:=rv.get hx
  obtain ⟨v,hv,rv'⟩:=rv2.get hy
  obtain ⟨h1,h2,⟨c1,c2,h3⟩,h4,h5⟩:=st
  refine wpAny_pyNext_zip_item D h1 h2 h3 h4 h5 p.isList p2.isList (x:=u) (y:=v) (by simpa using hu) (by simpa using hv) fun h' z1 z2 z3 z4 z5 z6 z7=>?_
  refine ⟨_,rfl,wpAny_letOwnedTupleGo_zip (s:={ s with heap:=h' }) z1 fun h'' y1 y2=>?_⟩
  have hT:H s.heap.objs.size=none:=I.hok.fresh (Nat.le_refl _)
  have I1:Inv X pins σ (upd H s.heap.objs.size (.tup [x,y])) { s with heap:=s.heap.push { cls:=.type "tuple",data:=.seq #[u,v] },toks:=s.toks } :=
   I.laid (t':=s.toks) (fun b u e=>Heap.get?_push_of_some _ e) (Nat.le_refl _) ⟨(by show 2<=sizeLine;rw [sizeLine_eq];decide),[u,v],.cons ru (.cons rv' .nil),⟨_,Heap.get?_push_size _ rfl,rfl,_,rfl⟩⟩
  have nf:∀ c∈[z,TI,TO,i1,i2],c≠s.heap.objs.size:=fun c hc e=>by
   have lt:∃ o,s.heap.get? c=some o:=by
    obtain ⟨o4,e4,_⟩:=id h4
    obtain ⟨o5,e5,_⟩:=id h5
    simp only [List.mem_cons,List.not_mem_nil,or_false] at hc
    rcases hc with rfl | rfl | rfl | rfl | rfl
    ·exact ⟨_,h1⟩
    ·exact ⟨_,h2⟩
    ·exact ⟨_,h3⟩
    ·exact ⟨_,e4⟩
    ·exact ⟨_,e5⟩
   obtain ⟨o,ho⟩:=lt
   have:=Heap.lt_size ho
   rw [e] at this
   exact Nat.lt_irrefl _ this
  have hf1:∀ c∈[z,TI,TO,i1,i2],jB X pins (upd H s.heap.objs.size (.tup [x,y])) c:=fun c hc=>by
   obtain ⟨f0,f⟩:=hf c hc
   exact ⟨by rw [aI (nf c hc)];exact f0,f⟩
  have I2:Inv X pins σ (upd H s.heap.objs.size (.tup [x,y])) { s with heap:=h'',toks:=s.toks } :=
   Inv.turnedL (s:={ s with heap:=s.heap.push { cls:=.type "tuple",data:=.seq #[u,v] },toks:=s.toks }) (t':=s.toks) (ch:=[z,TI,TO,i1,i2]) I1 (fun b o hb e=>by
    simp only [List.mem_cons,List.not_mem_nil,or_false,not_or] at hb
    obtain ⟨b1,b2,b3,b4,b5⟩:=hb
    refine (y2.2 b b1).trans ?_
    rcases Heap.get?_push_cases e with ⟨rfl,rfl⟩ | e
    ·exact z5
    ·exact z7 b o b1 b3 b4 b5 e) hf1
  refine ⟨.ref s.heap.objs.size,_,I2,rfl,⟨s.heap.objs.size,x,y,rfl,hT,rfl,fun zs hzs=>by rw [I.list_inj hzs hq1];exact hx,fun zs hzs=>by rw [I.list_inj hzs hq2];exact hy⟩,⟨y1,?_,⟨u,v,?_⟩,?_,?_⟩,fun c hc=>(hf1 c hc).1⟩
  ·exact (y2.2 TI D.TIz).trans (z7 TI _ D.TIz D.TITO D.TIi1 D.TIi2 h2)
  ·exact (y2.2 TO D.TOz).trans z2
  ·exact z3.at fun o e=>(y2.2 i1 D.i1z).trans e
  ·exact z4.at fun o e=>(y2.2 i2 D.i2z).trans e
 done:=by
  intro X hP hw hK hc i pins s σ H E I hf st hg
  subst hP hw hK
  obtain ⟨xs,ys,hq1,hq2,hl⟩:=hg
  obtain ⟨its,rv,p,hz⟩:=I.list hq1
  obtain ⟨its2,rv2,p2,hz2⟩:=I.list hq2
  obtain ⟨h1,h2,⟨c1,c2,h3⟩,h4,h5⟩:=st
  have l1:=rv.length
  have l2:=rv2.length
  refine wpAny_pyNext_zip_end (I.ok.hd hc) D h1 h2 h3 h4 h5 p.isList p2.isList ?_ fun h' kk=>⟨rfl,?_⟩
  ·rcases hl with g | g
   ·exact .inl (by simp;omega)
   ·exact .inr (by simp;omega)
  ·exact I.turnedL (t':=s.toks) (ch:=[z,TI,TO,i1,i2]) (fun b o hb e=>by
    simp only [List.mem_cons,List.not_mem_nil,or_false,not_or] at hb
    obtain ⟨b1,b2,b3,b4,b5⟩:=hb
    exact kk b o b1 b3 b4 b5 e) hf
 self:=fun _ _ _ _ _ st h=>wpAny_pyIter_zip st.1 h
section
variable {X:Cx}
def Qk (K:PySem.W.Frag)(ta:TA):TI:=fun σ H R=>ta σ H fun xs H1=>∃ a b:Addr,xs=[.ref a,.ref b]∧(∃ us,SqL K H1 a us)∧(∃ vs,SqL K H1 b vs)∧R (Itz K a b) H1
theorem Mi {a b:Expr}{ta:TA}{p pos pos':Pos}{elts:List Expr}{x1}(hg:Gl X "zip")(hm:X.mg "zip" = none)(ha:PA X [a,b] ta)(hs:starEach [a,b] X.env=[(false,eval a X.env),(false,eval b X.env)]:=by rfl)(hs2:starEach [b] X.env=[(false,eval b X.env)]:=by rfl) :
  PI X (.Tuple elts x1 pos') (.Call (.Name "zip" p) [a,b] [] pos) (Qk X.K ta):=by
 intro pins s σ H R I h
 refine Call_ (mC I hg hm boot_zip (PyProof.Rows.callWith_type1 (thn (ha pos pins s σ H _ I h) fun us s1 ⟨vs,H1,I1,r1,q1⟩=>?_) (by rw [hs,hs2]) (by rw [hs2];rfl)))
 obtain ⟨l1,l2,e,⟨us1,hq1⟩,⟨us2,hq2⟩,q⟩:=q1
 subst e
 cases r1 with
 | cons r rr =>
  cases rr with
  | cons r' rr =>
   cases rr
   cases r
   cases r'
   obtain ⟨its,rv,p,hz⟩:=I1.list hq1
   obtain ⟨its2,rv2,p2,hz2⟩:=I1.list hq2
   obtain ⟨o1,ho1,_⟩:=id p.isList
   obtain ⟨o2,ho2,_⟩:=id p2.isList
   refine call_zip_2 p.isList p2.isList fun h' z1 z2 z3 z4 z5 z6 z7=>?_
   refine wpAny_pyIter_zip (s:={ s1 with heap:=h' }) z1 ?_
   have fr:∀ c,s1.heap.objs.size<=c->jB X pins H1 c:=fun c hc=>I1.fpOk hc (I1.hok.fresh hc)
   refine ⟨s1.heap.objs.size+4,[s1.heap.objs.size+4,s1.heap.objs.size+2,s1.heap.objs.size+3,s1.heap.objs.size,s1.heap.objs.size+1],_,_,H1,rfl,I1.kept (t':=s1.toks) z7,Dk (zipApart_new (Heap.lt_size ho1) (Heap.lt_size ho2)),⟨z1,z2,⟨_,_,z3⟩,z4,z5⟩,fun c hc=>fr c ?_,q⟩
   simp only [List.mem_cons,List.not_mem_nil,or_false] at hc
   rcases hc with rfl | rfl | rfl | rfl | rfl
   ·exact Nat.le_add_right _ _
   ·exact Nat.le_add_right _ _
   ·exact Nat.le_add_right _ _
   ·exact Nat.le_refl _
   ·exact Nat.le_add_right _ _
end
end L2
namespace L2
open PySem PyProof.Rows PySem.Spec
end L2
namespace L2
open PySem PyProof.Rows PySem.Spec
namespace ZS
section
variable {prog:Program}{w:World}{A:Around}{E:Value->Shared->Prop}{s:Shared}
end
end ZS
section
variable {X:Cx}
end
end L2
namespace L2
open PySem PyProof.Rows PySem.Spec
section
variable {X:Cx}
end
end L2
namespace L2
open PySem PyProof.Rows PySem.Spec
theorem on1 {α:Type}{C:List α->Prop}{us:List α}(h:us.length=1)(k:∀ a,C [a]):C us:=match us,h with | [a],_=>k a
theorem on2 {α:Type}{C:List α->Prop}{us:List α}(h:us.length=2)(k:∀ a b,C [a,b]):C us:=match us,h with | [a,b],_=>k a b
theorem on3 {α:Type}{C:List α->Prop}{us:List α}(h:us.length=3)(k:∀ a b c,C [a,b,c]):C us:=match us,h with | [a,b,c],_=>k a b c
theorem on4 {α:Type}{C:List α->Prop}{us:List α}(h:us.length=4)(k:∀ a b c d,C [a,b,c,d]):C us:=match us,h with | [a,b,c,d],_=>k a b c d
section
variable {X:Cx}
theorem Gu {st:List Stmt}:PSs X st (fun _ _ _=>False):=fun _ _ _ _ _ _ h=>h.elim
end
end L2
namespace L2
open PySem PySem.Spec PyProof.Rows
set_option genInjectivity false in
structure sZ (N N':List Str)(sc scope:Scope)(x y2:Str):Prop where
 kind:scope.kind = .function
 cell:∀ y∈scope.names,y.2≠.cell
 names:∀ y∈scope.names,y.2 = .local->scope.names.lookup y.1=some .local
 var:scope.names.lookup x=some .local
 var2:scope.names.lookup y2=some .local
 ok:∀ y∈scope.names,y.2 = .free->sc.names.lookup y.1=some .cell∨sc.names.lookup y.1=some .free
 hd:N'[0]?=some x
 hd2:N'[1]?=some y2
 len:N'.length=N.length+2
 sub:∀ i,i<N.length->N'[i+2]?=N[i]?∨N'[i+2]?=some ("" : Str)
 noe:scope.names.lookup ("" : Str)=none
 nol:∀ y∈N'.tail.tail,scope.names.lookup y≠some .local
 nd:N'.Nodup
def sJ (K:PySem.W.Frag)(te:TE)(σ:St)(Q:VK)(J:It)(H1:Hp):Prop:=∀ D,H1 D=none->∃ W:Nat->Nat->List V->Hp->Prop,(∃ m,W 0 m [] (upd H1 D (.lst [])))∧∀ i m ys H2,W i m ys H2 ->
 (J.stop i H2∧Q (.ref D) H2)∨(J.go i H2∧ys.length<sizeLine∧∃ N:V->Hp->Prop,(∀ v H',N v H'->H' D=some (.lst ys)∧∃ m',m'<m∧W (i+1) m' (ys++[v]) (upd H' D (.lst (ys++[v])))) ∧
  ∀ y H',J.yld i H2 y H'->∃ (a:Addr) (u v:V),y = .ref a∧SqT K H' a [u,v]∧te (some u::some v::σ) H' N)
def Lb (K:PySem.W.Frag)(wi:TI)(te:TE):TE:=fun σ H Q=>wi σ H (sJ K te σ Q)
section
variable {X:Cx}{N':List Str}{scope:Scope}{x y2:Str}{px py py2 pt:Pos}{elt iter:Expr}{pos:Pos}{te:TE}{wi:TI}
theorem wI (S:sZ X.N N' X.env.scope scope x y2)(hc:X.calm=true)(he:∀ cl C s H fp,PE (bY X N' scope cl C s H fp) elt te)
  {pins:List (Addr×Obj)} {σ:St} {H:Hp} {s:Shared} {Q:VK} {E:Value->Shared->Prop} {RR:Value->Addr->Result->Shared->Prop} {it:Addr} {fp:List Addr} {tn:Nat->Heap->Prop} {J:It}
  (I:Inv X pins σ H s) (T:pA X.prog X.w X.K (.Tuple [.Name x px,.Name y2 py] 0 pt) J fp it tn) (st:tn 0 s.heap) (f2:∀ b∈fp,jB X pins H b)
  (hw:sJ X.K te σ Q J H)
  (hRR:∀ D C s' H',Inv X pins σ H' s'->(∃ m,s'.heap.Ns C m)->C≠X.env.locals->(∀ y c,X.env.cells.lookup y=some c->c≠C)->H' C=none->X.s₀.heap.objs.size<=C->(∀ p∈X.pn++pins,p.1≠C)->Q (.ref D) H'->RR (.ref D) C (.ok .next) s') :
  ∃ cl,closureFor scope X.env=pure cl∧wpAny (model X.prog X.w) X.A (newList []) (fun acc s₃=>wpAny (model X.prog X.w) X.A (newFunctionEnv scope X.env.globals cl [] X.env.qual none .none (some X.env)) (fun cenv s₄ =>
   codeAny (model X.prog X.w) X.A (.compStart (.ListComp elt [⟨.Tuple [.Name x px,.Name y2 py] 0 pt,iter,[],0⟩] scope pos) 0 (.ref it) acc { cenv with scope:=relabel scope X.env }) (RR acc cenv.locals) s₄) E s₃) E s:=by
 have hfree:∀ z∈scope.names,z.2 = .free->∃ c,X.env.cells.lookup z.1=some c:=fun z hz hk=>by
  rcases S.ok z hz hk with q | q
  ·exact I.ok.has z.1 (.inl q)
  ·exact I.ok.has z.1 (.inr q)
 refine ⟨_,fF hfree,?_⟩
 have clS:∀ y c,(cN X.env.cells scope.names []).lookup y=some c->X.env.cells.lookup y=some c:=fun y c=>iJ scope.names [] hfree fun q=>by cases q
 generalize hcl:cN X.env.cells scope.names []=cl at clS
 have clH:∀ y,scope.names.lookup y=some .free->∃ c,cl.lookup y=some c:=fun y hy=>by
  rw [<- hcl]
  exact kW scope.names [] (cP hy)
 refine wpAny_newObj_type (wpAny_newFunctionEnv S.cell (by intro y hy;simp at hy) (fun h₁ hns₁ hsb₁=>?_) S.kind)
 have I3:Inv X pins σ (upd H s.heap.objs.size (.lst [])) { s with heap:=s.heap.push { cls:=.type "list",data:=.seq ([]:List Value).toArray } }:=I.lnew (t':=s.toks) .nil (Nat.zero_le _)
 obtain ⟨W,⟨m0,w0⟩,turn⟩:=hw s.heap.objs.size I.fresh
 dsimp only at hns₁ hsb₁ ⊢
 generalize hs3:({ s with heap:=s.heap.push { cls:=.type "list",data:=.seq ([]:List Value).toArray } }:Shared)=s3 at I3
 have hh3:s3.heap=s.heap.push { cls:=.type "list",data:=.seq ([]:List Value).toArray }:=by rw [<- hs3]
 have hsz3:s3.heap.objs.size=s.heap.objs.size+1:=by rw [hh3,Heap.size_push]
 rw [<- hh3] at hns₁ hsb₁ ⊢
 have old:∀ b o,s3.heap.get? b=some o->h₁.get? b=some o:=fun b o e=>hsb₁.extBut b o (by have:=Heap.lt_size e;exact Nat.ne_of_lt this) (Heap.get?_push_of_some _ e)
 have old0:∀ b o,s.heap.get? b=some o->h₁.get? b=some o:=fun b o e=>old b o (by rw [hh3];exact Heap.get?_push_of_some _ e)
 have CneL:s3.heap.objs.size≠X.env.locals:=Nat.ne_of_gt I3.lt
 have CneC:∀ y c,X.env.cells.lookup y=some c->c≠s3.heap.objs.size:=fun y c e z=>by
  obtain ⟨v,q⟩:=I3.cell y c e
  have:=q.lt
  rw [z] at this
  exact absurd this (Nat.lt_irrefl _)
 have CneP:∀ p∈X.pn++pins,p.1≠s3.heap.objs.size:=fun p hp z=>by
  have:=Heap.lt_size (I3.pin p hp).1
  rw [z] at this
  exact absurd this (Nat.lt_irrefl _)
 have CfreeH:∀ b o,s3.heap.get? b=some o->b<s3.heap.objs.size:=fun b o e=>by have:=Heap.lt_size e;exact this
 have fpLt:∀ b∈fp,b<s3.heap.objs.size:=fun b hb=>by
  obtain ⟨o,e,_⟩:=T.obj 0 s.heap st b hb
  rw [hsz3]
  exact Nat.lt_succ_of_lt (Heap.lt_size e)
 have fpD:∀ b∈fp,b≠s.heap.objs.size:=fun b hb=>by
  obtain ⟨o,e,_⟩:=T.obj 0 s.heap st b hb
  exact Nat.ne_of_lt (Heap.lt_size e)
 have ok':(bY X N' scope cl s3.heap.objs.size s3 (upd H s.heap.objs.size (.lst [])) fp).Ok:=by
  refine ⟨I3.ok.mod,?_,I3.ok.glob,I3.ok.blt,Nat.le_refl _,fun y z c h1 h2=>I3.ok.inj y z c (clS y c h1) (clS z c h2),fun y hy=>?_,fun y c hf=>(by cases hf),I3.ok.hd,I3.ok.frames,.inl rfl,fun b hb=>⟨Nat.ne_of_lt (fpLt b hb),fun y c e=>(f2 b hb).2.2.2.2.1 y c (clS y c e)⟩,
   fun b o e=>I3.bs b o e,Nat.le_trans I3.ok.bsz I3.sz,fun b o e hb=>?_,fun b hb z=>?_,I3.stack,I3.stkFree⟩
  ·show (relabel scope X.env).kind = .function
   exact S.kind
  ·have hy':(relabel scope X.env).names.lookup y=some .cell∨(relabel scope X.env).names.lookup y=some .free:=hy
   rw [aZ] at hy'
   cases q:scope.names.lookup y with
   | none=>rw [q] at hy';rcases hy' with z | z <;> cases z
   | some k =>
     have hm:=cP q
     cases k with
     | free=>exact clH y q
     | cell=>exact absurd rfl (S.cell _ hm)
     | «local» => rw [q] at hy';rcases hy' with z | z <;> simp at z
     | globalExplicit=>rw [q] at hy';rcases hy' with z | z <;> simp at z
     | globalImplicit=>rw [q] at hy';rcases hy' with z | z <;> simp at z
  ·rcases (f2 b hb).2.2.2.1 with z | z
   · exact I.ok.noex b o e z
   · exact absurd (Nat.lt_of_lt_of_le (Heap.lt_size e) (Nat.le_trans I.ok.bsz z)) (Nat.lt_irrefl _)
  ·rcases List.mem_cons.mp (I3.stkSub b z) with q | q
   · exact (f2 b hb).2.1 q
   · exact (f2 b hb).2.2.1 q
 have fpOk':∀ {H':Hp},(∀ b∈fp,H' b=none)->∀ b∈fp,jB (bY X N' scope cl s3.heap.objs.size s3 (upd H s.heap.objs.size (.lst [])) fp) pins H' b:=fun hn b hb =>
  ⟨hn b hb,Nat.ne_of_lt (fpLt b hb),fun z=>by
   rcases List.mem_cons.mp (I3.stkSub b z) with q | q
   · exact (f2 b hb).2.1 q
   · exact (f2 b hb).2.2.1 q,.inl hb,fun y c e=>(f2 b hb).2.2.2.2.1 y c (clS y c e),(f2 b hb).2.2.2.2.2⟩
 have I4:Inv (bY X N' scope cl s3.heap.objs.size s3 (upd H s.heap.objs.size (.lst [])) fp) pins (none::none::σ) (upd H s.heap.objs.size (.lst [])) { s3 with heap:=h₁,toks:=s3.toks+([]:List (Str×Value)).length }:=by
  refine ⟨ok',rfl,I3.bare,Un.kept old,⟨_,hns₁,fun i y v e1 e2 vis=>?_⟩,fun y c e=>?_,?_,fun y c e=>I3.freeC y c (clS y c e),fun p hp=>?_,I3.hok.kept old,?_⟩
  ·cases i with
   | zero=>cases e2
   | succ i =>
    cases i with
    | zero=>cases e2
    | succ i =>
     have e2':σ[i]?=some (some v):=by simpa using e2
     have hi:i<X.N.length:=by rw [<- I3.len];exact (List.getElem?_eq_some_iff.mp e2').1
     have vis':(relabel scope X.env).names.lookup y=some .local∨(relabel scope X.env).names.lookup y=some .cell∨(relabel scope X.env).names.lookup y=some .free:=vis
     have e1':N'[i+2]?=some y:=e1
     rcases S.sub i hi with q | q
     ·rw [e1'] at q
      have hy:X.N[i]?=some y:=q.symm
      have hmem:y∈N'.tail.tail:=by
       rw [List.mem_iff_getElem?]
       exact ⟨i,by rw [List.getElem?_tail,List.getElem?_tail];exact e1'⟩
      have hfr:scope.names.lookup y=some .free:=by
       rw [aZ] at vis'
       cases q2:scope.names.lookup y with
       | none=>rw [q2] at vis';rcases vis' with z | z | z <;> cases z
       | some k =>
        cases k with
        | free=>rfl
        | cell=>exact absurd rfl (S.cell _ (cP q2))
        | «local» => exact absurd q2 (S.nol y hmem)
        | globalExplicit=>rw [q2] at vis';rcases vis' with z | z | z <;> simp at z
        | globalImplicit=>rw [q2] at vis';rcases vis' with z | z | z <;> simp at z
      have hok:=S.ok (y,.free) (cP hfr) rfl
      obtain ⟨m,hn,hl⟩:=I3.loc
      have visX:Vis X.env.scope y:=by
       rcases hok with z | z
       ·exact .inr (.inl z)
       ·exact .inr (.inr z)
      obtain ⟨u,r,l⟩:=hl i y v hy e2' visX
      refine ⟨u,r,.inr ⟨?_,?_⟩⟩
      ·show (relabel scope X.env).names.lookup y=some .cell∨(relabel scope X.env).names.lookup y=some .free
       rw [aZ,hfr,Option.map_some]
       by_cases hcnd:(NameKind.free==NameKind.free&&X.env.scope.kind == .function&&X.env.kindOf y==some .cell)=true
       ·left
        rw [if_pos hcnd]
       ·right
        rw [if_neg hcnd]
      ·rcases l with ⟨k,_⟩ | ⟨k,c,e,z⟩
       ·have k':X.env.scope.names.lookup y=some .local:=k
        have hok':X.env.scope.names.lookup y=some .cell∨X.env.scope.names.lookup y=some .free:=hok
        rw [k'] at hok'
        rcases hok' with z | z <;> cases z
       ·obtain ⟨c',e'⟩:=clH y hfr
        have e3:=clS y c' e'
        rw [e] at e3
        cases e3
        obtain ⟨o,ho,hd⟩:=z
        exact ⟨c,e',o,old c o ho,hd⟩
     ·rw [e1'] at q
      cases q
      rw [aZ,S.noe] at vis'
      rcases vis' with z | z | z <;> cases z
  ·obtain ⟨v,o,ho,hd⟩:=I3.cell y c (clS y c e)
   exact ⟨v,o,old c o ho,hd⟩
  ·show upd H s.heap.objs.size (.lst []) s3.heap.objs.size=none
   exact I3.hok.fresh (Nat.le_refl _)
  ·obtain ⟨e,n,ne,nf,d⟩:=I3.pin p hp
   refine ⟨old _ _ e,n,CneP p hp,fun z=>?_,d⟩
   rcases List.mem_cons.mp (I3.stkSub p.1 z) with q | q
   · exact ne q
   · exact nf q
  ·show (none::none::σ).length=N'.length
   rw [S.len,List.length_cons,List.length_cons,I3.len]
 have st4:tn 0 h₁:=T.keep 0 s.heap h₁ st fun b _ o e=>old0 b o e
 have loop:∀ s₄:Shared,s₄ = { s3 with heap:=h₁,toks:=s3.toks+([]:List (Str×Value)).length } ->
   codeAny (model X.prog X.w) X.A (.compLoop (.ListComp elt [⟨.Tuple [.Name x px,.Name y2 py] 0 pt,iter,[],0⟩] scope pos) 0 (.ref it) (.ref s.heap.objs.size) (compEnvC scope cl s3.heap.objs.size X.env)) (RR (.ref s.heap.objs.size) s3.heap.objs.size) s₄:=by
  rintro s₄ rfl
  refine iY (fun n s'=>∃ i v0 v1 ys H',Inv (bY X N' scope cl s3.heap.objs.size s3 (upd H s.heap.objs.size (.lst [])) fp) pins (v0::v1::σ) H' s'∧tn i s'.heap∧(∀ b∈fp,H' b=none)∧W i n ys H') ?_ m0
   ⟨0,none,none,[],_,I4,st4,fun b hb=>by rw [aI (fpD b hb)];exact (f2 b hb).1,w0⟩
  rintro n s5 ⟨i,v0,v1,ys,H5,I5,st5,fr5,w5⟩
  rcases turn i n ys H5 w5 with ⟨stop,qn⟩ | ⟨go,hz,N,hN,step⟩
  ·refine thn (T.done (bY X N' scope cl s3.heap.objs.size s3 (upd H s.heap.objs.size (.lst [])) fp) rfl rfl rfl hc i pins s5 (v0::v1::σ) H5 (fun _ _=>False) I5 (fpOk' fr5) st5 stop) fun r s6 ⟨hr,I6⟩=>?_
   subst hr
   have hch:∀ b∈fp,(b∈X.ex∨X.s₀.heap.objs.size<=b)∧b≠X.env.locals∧(∀ x c,X.env.cells.lookup x=some c->c≠b)∧∀ p∈X.pn++pins,p.1≠b:=fun b hb =>
     ⟨(f2 b hb).2.2.2.1,(f2 b hb).2.1,(f2 b hb).2.2.2.2.1,(f2 b hb).2.2.2.2.2⟩
   have I7:Inv X pins σ H5 s6:=I3.call' (ch:=fp) I6.os I6.base I6.hok I6.bare hch
   obtain ⟨m,hm,_⟩:=I6.loc
   exact hRR s.heap.objs.size s3.heap.objs.size s6 H5 I7 ⟨m,hm⟩ CneL CneC I6.free (Nat.le_trans I3.sz (Nat.le_refl _)) CneP qn
  ·refine thn (T.item (bY X N' scope cl s3.heap.objs.size s3 (upd H s.heap.objs.size (.lst [])) fp) rfl rfl rfl hc i pins s5 (v0::v1::σ) H5 (fun _ _=>False) I5 (fpOk' fr5) st5 go) fun r s6 ⟨u,hr,h6⟩=>?_
   subst hr
   refine thn h6 fun _ s7 ⟨y,H7,I7,r7,y7,st7,fr7⟩=>?_
   have I7':=I7.pinned (fpOk' fr7) (T.obj _ _ st7)
   obtain ⟨aT,u0,u1,e7,hT7,step7⟩:=step y H7 y7
   have I7c:Inv (bY X N' scope cl s3.heap.objs.size s3 (upd H s.heap.objs.size (.lst [])) fp) (pins++jI fp s7.heap) (v0::v1::σ) H7 s7:=I7'
   refine thn ((show PG _ _ _ from xV (X:=bY X N' scope cl s3.heap.objs.size s3 (upd H s.heap.objs.size (.lst [])) fp) (es:=[.Name x px,.Name y2 py]) (n:=2) hc
     (gS (bS (i:=0) S.nd S.hd (.inl (lookup_relabel_local S.var)) (.inr (lookup_relabel_local S.var))) (gS (bS (i:=1) S.nd S.hd2 (.inl (lookup_relabel_local S.var2)) (.inr (lookup_relabel_local S.var2))) sB)))
     _ s7 (v0::v1::σ) H7 y u (fun σ2 H2=>σ2=some u0::some u1::σ∧H2=H7) I7c r7 ⟨aT,[u0,u1],e7,hT7,rfl,u0,[u1],rfl,u1,[],rfl,rfl,rfl,rfl⟩) fun _ s8 ⟨σ8,H8,I8,e8,e8'⟩=>?_
   subst e8 e8'
   have I8':Inv (bY X N' scope cl s3.heap.objs.size s3 (upd H s.heap.objs.size (.lst [])) fp) (pins++jI fp s7.heap) (some u0::some u1::σ) H8 s8:=I8
   refine thn (he cl s3.heap.objs.size s3 (upd H s.heap.objs.size (.lst [])) fp _ s8 (some u0::some u1::σ) _ N I8' step7) fun w s9 ⟨v,H9,I9,r9,q9⟩=>?_
   obtain ⟨hD9,m',hm,w9⟩:=hN v H9 q9
   refine thn (gA _ s9 (some u0::some u1::σ) H9 (.ref s.heap.objs.size) [v] (.ref s.heap.objs.size) [w] (fun z H10=>z = .non∧H10=upd H9 s.heap.objs.size (.lst (ys++[v]))) I9 rfl (.cons r9 .nil) ⟨s.heap.objs.size,ys,v,rfl,rfl,hD9,hz,rfl,rfl⟩) fun _ s10 ⟨z,H10,I10,_,ez,e10⟩=>?_
   subst e10
   refine ⟨m',hm,i+1,some u0,some u1,ys++[v],_,I10.unpinned,T.keep _ _ _ st7 fun b hb o e=>(I10.pin (b,o) (List.mem_append_right _ (List.mem_append_right _ (cK hb e)))).1,fun b hb=>?_,w9⟩
   obtain ⟨o,e,d⟩:=T.obj _ _ st7 b hb
   exact (I10.pin (b,o) (List.mem_append_right _ (List.mem_append_right _ (cK hb e)))).2.1
 exact codeAny_compStart_list (loop _ (by rw [<- hs3])) (T.self X.A 0 _ _ _ st4 (loop _ (by rw [<- hs3])))
end
theorem Fo {K:PySem.W.Frag}{a b:Addr}{xs ys:List V}{te:TE}{σ:St}{H:Hp}{Q:VK}(f:V->V->V)(hx:SqL K H a xs)(hy:SqL K H b ys)(he:xs.length=ys.length)(hn:xs.length<=sizeLine)
  (hs:∀ (i:Nat) (x y:V) (H':Hp),xs[i]?=some x->ys[i]?=some y->aN H H'->∀ N:V->Hp->Prop,(∀ H'',aN H' H''->N (f x y) H'')->te (some x::some y::σ) H' N)
  (hq:∀ D H',H D=none->aN H H'->H' D=some (.lst (List.zipWith f xs ys))->Q (.ref D) H'):sJ K te σ Q (Itz K a b) H:=by
 have hzl:(List.zipWith f xs ys).length=xs.length:=by rw [List.length_zipWith,<- he,Nat.min_self]
 intro D hD
 refine ⟨fun i m zs H2=>m=xs.length-i∧i<=xs.length∧zs=(List.zipWith f xs ys).take i∧aN H H2∧H2 D=some (.lst zs),⟨xs.length,rfl,Nat.zero_le _,rfl,fun b o e=>?_,aC⟩,?_⟩
 ·rw [aI (aK e hD)]
  exact e
 ·rintro i m zs H2 ⟨rfl,hi,rfl,s2,hd⟩
  by_cases hlt:i<xs.length
  ·have h1:xs[i]?=some xs[i]:=List.getElem?_eq_getElem hlt
   have h2:ys[i]?=some (ys[i]'(by omega)):=List.getElem?_eq_getElem (by omega)
   refine .inr ⟨⟨xs,ys,_,_,s2.seq hx,s2.seq hy,h1,h2⟩,by rw [List.length_take];omega,fun v H'=>v=f xs[i] (ys[i]'(by omega))∧aN H2 H',fun v H' ⟨ev,hs'⟩=>⟨hs' D _ hd,xs.length-(i+1),by omega,rfl,hlt,?app,fun b o e=>?kp,aC⟩,fun y H' hy'=>?stp⟩
   case app=>rw [ev,List.take_add_one,List.getElem?_zipWith,h1,h2];rfl
   case kp =>
    rw [aI (aK e hD)]
    exact hs' b o (s2 b o e)
   case stp =>
    obtain ⟨T,u,v,rfl,hT,rfl,y1,y3⟩:=hy'
    have t2:aN H2 (upd H2 T (.tup [u,v])):=fun b o e=>by rw [aI (aK e hT)];exact e
    obtain rfl:=Option.some.inj ((y1 xs (s2.seq hx)).symm.trans h1)
    obtain rfl:=Option.some.inj ((y3 ys (s2.seq hy)).symm.trans h2)
    exact ⟨T,_,_,rfl,SqT.of aC,hs i _ _ _ h1 h2 (s2.trans t2) _ fun H'' h''=>⟨rfl,t2.trans h''⟩⟩
  ·have e:i=xs.length:=by omega
   subst e
   rw [List.take_of_length_le (by omega)] at hd
   exact .inl ⟨⟨xs,ys,s2.seq hx,s2.seq hy,.inl (Nat.le_refl _)⟩,hq D H2 hD s2 hd⟩
end L2
namespace L2
open PySem PySem.Spec PyProof.Rows
end L2
namespace L2
open PySem PySem.Spec PyProof.Rows
end L2
namespace L2
open PySem PySem.Spec PyProof.Rows
section
variable {X:Cx}{pins:List (Addr×Obj)}{σ:St}{H H':Hp}{s s':Shared}{a:Addr}{cls:Value}{E:Value->Shared->Prop}
end
section
variable {X:Cx}{pins:List (Addr×Obj)}{σ:St}{H H':Hp}{s s':Shared}{a:Addr}{cls:Value}
end
section
variable {P:Program}{w:World}{K:PySem.W.Frag}{mg:Str->Option Value}{base:Heap}{N:List Str}{qual:Str}{scope:Scope}{f:Addr}{cdv:Value}{A:Around}{outer:List Env}{s:Shared}{H:Hp}{E:XK}
end
section
variable {X:Cx}
end
end L2
namespace L2
open PySem PySem.Spec PyProof.Rows
section
variable {prog:Program}{w:World}{A:Around}{E:Value->Shared->Prop}{h:Heap}{g:Array GenState}{d:Drawn}{t:Nat}{os:OsState}
variable {nm q:Str}{Cl Ns:Addr}{bs tl:List Value}{hdct:Bool}{sn:List Str}{sub:List Value}{ab:Bool}{col:Option Bool}{dd:Option Addr}{k0 k1 k2 k3 k5:Option Value}
end
section
variable {M:Model}{A:Around}{E:Value->Shared->Prop}{s:Shared}{env:Env}
variable {nm q:Str}{Cl Ns:Addr}{bs tl:List Value}{hdct:Bool}{sn:List Str}{sub:List Value}{ab:Bool}{col:Option Bool}{dd:Option Addr}{k0 k1 k2 k3 k5:Option Value}{ni:String}
end
end L2
namespace L2
open PySem PySem.Spec PyProof.Rows
end L2
namespace L2
open PySem PySem.Spec PyProof.Rows
section
variable {X:Cx}
end
end L2
namespace L2
open PySem PySem.Spec PyProof.Rows PySem.Builtin PySem.Builtin.ObjectAttr
section
variable {prog:Program}{w:World}{A:Around}{E:Value->Shared->Prop}{K:PySem.W.Frag}{C f a x0:Addr}{F:Str}{v:Value}{s:Shared}
end
section
variable {X:Cx}
end
end L2
namespace L2
open PySem PySem.Spec PyProof.Rows
section
variable {X:Cx}{pins:List (Addr×Obj)}{σ:St}{H:Hp}{s:Shared}{a C x0:Addr}{E:Value->Shared->Prop}{od:Option Addr}
end
section
variable {X:Cx}
end
end L2
namespace L2
open PySem PyProof.Rows PySem.Spec
section
variable {X:Cx}
end
namespace EX
open PySem.W PySem.Calls PySem.Builtin PySem.Builtin.ObjectAttr PySem.Builtin.Getset_descriptor
variable {prog:Program}{w:World}{A:Around}{E:Value->Shared->Prop}{s:Shared}{K:PySem.W.Frag}{a C:Addr}
end EX
section
variable {X:Cx}
end
end L2
namespace L2
open PySem PySem.Spec PyProof.Rows
section
variable {X:Cx}
theorem Ds (K:PySem.W.Frag)(hK:X.K=K){tg l:Expr}{tl:TE}(hl:PE X l tl):PI X tg l (Jw K tl):=by
 subst hK
 exact cD hl
end
end L2
namespace L2
open PySem PyProof.Rows PySem.Spec
def Ite (K:PySem.W.Frag)(a:Addr):It :=
 ⟨fun i H=>∃ xs x,SqL K H a xs∧xs[i]?=some x,
  fun i H x H'=>∃ (T:Addr) (u:V),x = .ref T∧H T=none∧H'=upd H T (.tup [.int (i:Nat),u])∧∀ xs,SqL K H a xs->xs[i]?=some u,
  fun i H=>∃ xs,SqL K H a xs∧xs.length<=i⟩
theorem Bo {P:Program}{w:World}{K:PySem.W.Frag}{elts:List Expr}{x1}{pos:Pos}{a e it:Addr}(hne:e≠it) :
  pA P w K (.Tuple elts x1 pos) (Ite K a) [e,it] e (fun i h=>(∃ old,IsEnum h e it i old)∧h.IsListIter it a i) where
 mem:=by simp
 obj:=fun i h st c hc=>by
  obtain ⟨⟨old,h1⟩,⟨o4,e4,c4,d4⟩⟩:=st
  simp only [List.mem_cons,List.not_mem_nil,or_false] at hc
  rcases hc with rfl | rfl
  ·exact ⟨_,h1,fun v z=>by cases z⟩
  ·exact ⟨_,e4,fun v z=>by rw [d4] at z;cases z⟩
 keep:=fun i h h' st k=>by
  obtain ⟨⟨old,h1⟩,h4⟩:=st
  exact ⟨⟨old,k e (by simp) _ h1⟩,h4.at fun o e=>k it (by simp) o e⟩
 item:=by
  intro X hP hw hK hc i pins s σ H E I hf st hg
  subst hP hw hK
  obtain ⟨xs,x,hq1,hx⟩:=hg
  obtain ⟨its,rv,p,hz⟩:=I.list hq1
  obtain ⟨u,hu,ru⟩:=rv.get hx
  obtain ⟨⟨old,h1⟩,h4⟩:=st
  refine wpAny_pyNext_enum_item h1 h4 p.isList (x:=u) (by simpa using hu) hne fun h' z1 z2 z3 z4 z5=>?_
  refine ⟨_,rfl,wpAny_letOwnedTupleGo_enum (s:={ s with heap:=h',toks:=s.toks+1 }) z1 fun h'' y1 y2=>?_⟩
  have hT:H s.heap.objs.size=none:=I.hok.fresh (Nat.le_refl _)
  have I1:Inv X pins σ (upd H s.heap.objs.size (.tup [.int (i:Nat),x])) { s with heap:=s.heap.push { cls:=.type "tuple",data:=.seq #[.int i s.toks,u] },toks:=s.toks+1 } :=
   I.laid (t':=s.toks+1) (fun b u e=>Heap.get?_push_of_some _ e) (Nat.le_refl _) ⟨(by show 2<=sizeLine;rw [sizeLine_eq];decide),[.int i s.toks,u],.cons ⟨_,rfl⟩ (.cons ru .nil),⟨_,Heap.get?_push_size _ rfl,rfl,_,rfl⟩⟩
  have nf:∀ c∈[e,it],c≠s.heap.objs.size:=fun c hc e=>by
   have lt:∃ o,s.heap.get? c=some o:=by
    obtain ⟨o4,e4,_⟩:=id h4
    simp only [List.mem_cons,List.not_mem_nil,or_false] at hc
    rcases hc with rfl | rfl
    ·exact ⟨_,h1⟩
    ·exact ⟨_,e4⟩
   obtain ⟨o,ho⟩:=lt
   have:=Heap.lt_size ho
   rw [e] at this
   exact Nat.lt_irrefl _ this
  have hf1:∀ c∈[e,it],jB X pins (upd H s.heap.objs.size (.tup [.int (i:Nat),x])) c:=fun c hc=>by
   obtain ⟨f0,f⟩:=hf c hc
   exact ⟨by rw [aI (nf c hc)];exact f0,f⟩
  have I2:Inv X pins σ (upd H s.heap.objs.size (.tup [.int (i:Nat),x])) { s with heap:=h'',toks:=s.toks+1 } :=
   Inv.turnedL (s:={ s with heap:=s.heap.push { cls:=.type "tuple",data:=.seq #[.int i s.toks,u] },toks:=s.toks+1 }) (t':=s.toks+1) (ch:=[e,it]) I1 (fun b o hb e=>by
    simp only [List.mem_cons,List.not_mem_nil,or_false,not_or] at hb
    obtain ⟨b1,b2⟩:=hb
    refine (y2.2 b b1).trans ?_
    rcases Heap.get?_push_cases e with ⟨rfl,rfl⟩ | e
    ·exact z3
    ·exact z5 b o b1 b2 e) hf1
  refine ⟨.ref s.heap.objs.size,_,I2,rfl,⟨s.heap.objs.size,x,rfl,hT,rfl,fun zs hzs=>by rw [I.list_inj hzs hq1];exact hx⟩,⟨⟨_,by exact_mod_cast y1⟩,?_⟩,fun c hc=>(hf1 c hc).1⟩
  exact z2.at fun o e=>(y2.2 it (Ne.symm hne)).trans e
 done:=by
  intro X hP hw hK hc i pins s σ H E I hf st hg
  subst hP hw hK
  obtain ⟨xs,hq1,hl⟩:=hg
  obtain ⟨its,rv,p,hz⟩:=I.list hq1
  obtain ⟨⟨old,h1⟩,h4⟩:=st
  have l1:=rv.length
  refine wpAny_pyNext_enum_end (I.ok.hd hc) h1 h4 p.isList (by simp;omega) fun h' kk=>⟨rfl,?_⟩
  exact I.turnedL (t':=s.toks) (ch:=[e,it]) (fun b o hb e=>by
   simp only [List.mem_cons,List.not_mem_nil,or_false,not_or] at hb
   exact kk b o hb.2 e) hf
 self:=fun A i s Q E st h=>wpAny_pyIter_enum st.1.choose_spec h
section
variable {X:Cx}
def Ov (K:PySem.W.Frag)(ta:TA):TI:=fun σ H R=>ta σ H fun xs H1=>∃ a:Addr,xs=[.ref a]∧(∃ us,SqL K H1 a us)∧R (Ite K a) H1
theorem Hw {a:Expr}{ta:TA}{p pos pos':Pos}{elts:List Expr}{x1}(hg:Gl X "enumerate")(hm:X.mg "enumerate" = none)(ha:PA X [a] ta)(hs:starEach [a] X.env=[(false,eval a X.env)]:=by rfl) :
  PI X (.Tuple elts x1 pos') (.Call (.Name "enumerate" p) [a] [] pos) (Ov X.K ta):=by
 intro pins s σ H R I h
 refine Call_ (mC I hg hm boot_enumerate (PyProof.Rows.callWith_type1 (thn (ha pos pins s σ H _ I h) fun us s1 ⟨vs,H1,I1,r1,q1⟩=>?_) (by rw [hs];rfl) (by rfl)))
 obtain ⟨l1,e,⟨us1,hq1⟩,q⟩:=q1
 subst e
 cases r1 with
 | cons r rr =>
  cases rr
  cases r
  obtain ⟨its,rv,p,hz⟩:=I1.list hq1
  refine call_enumerate_list p.isList fun h' z1 z2 z3 z4=>?_
  refine wpAny_pyIter_enum (s:={ s1 with heap:=h' }) z1 ?_
  have fr:∀ c,s1.heap.objs.size<=c->jB X pins H1 c:=fun c hc=>I1.fpOk hc (I1.hok.fresh hc)
  refine ⟨s1.heap.objs.size+1,[s1.heap.objs.size+1,s1.heap.objs.size],_,_,H1,rfl,I1.kept (t':=s1.toks) z4,Bo (Nat.succ_ne_self _),⟨⟨_,z1⟩,z2⟩,fun c hc=>fr c ?_,q⟩
  simp only [List.mem_cons,List.not_mem_nil,or_false] at hc
  rcases hc with rfl | rfl
  ·exact Nat.le_add_right _ _
  ·exact Nat.le_refl _
theorem Fg {K:PySem.W.Frag}{a:Addr}{xs:List V}{g:TG}{tb:TS}{D:kL}{σ:St}{H:Hp}(Pv:Nat->St->Hp->Prop)(h0:Pv 0 σ H)(hl:∀ i σ H,i<=xs.length->Pv i σ H->SqL K H a xs)
  (hs:∀ i x T σ H,xs[i]?=some x->H T=none->Pv i σ H->g (.ref T) σ (upd H T (.tup [.int (i:Nat),x])) fun σ2 H2=>tb { D with nx:=Pv (i+1),ct:=Pv (i+1),bk:=D.nx } σ2 H2) (hd:∀ σ H,Pv xs.length σ H->D.nx σ H) :
  ∃ W:Nat->Nat->St->Hp->Prop,(∃ m,W 0 m σ H)∧∀ i m σ H,W i m σ H ->
   ((Ite K a).stop i H∧D.nx σ H)∨((Ite K a).go i H∧∃ N:St->Hp->Prop,(∀ σ' H',N σ' H'->∃ m',m'<m∧W (i+1) m' σ' H')∧∀ x H',(Ite K a).yld i H x H'->g x σ H' fun σ2 H2=>tb { D with nx:=N,ct:=N,bk:=D.nx } σ2 H2):=by
 refine ⟨fun i m σ H=>m=xs.length-i∧i<=xs.length∧Pv i σ H,⟨xs.length,by simp,Nat.zero_le _,h0⟩,?_⟩
 rintro i m σ H ⟨rfl,hi,p⟩
 have q1:=hl i σ H hi p
 by_cases hlt:i<xs.length
 ·refine .inr ⟨⟨xs,xs[i],q1,by simp [hlt]⟩,Pv (i+1),fun σ' H' p'=>⟨xs.length-(i+1),by omega,rfl,hlt,p'⟩,fun x H' y=>?_⟩
  obtain ⟨T,u,rfl,hT,rfl,y1⟩:=y
  exact hs i u T σ _ (y1 xs q1) hT p
 ·have e:i=xs.length:=by omega
  subst e
  exact .inl ⟨⟨xs,q1,Nat.le_refl _⟩,hd σ H p⟩
end
end L2
namespace L2
open PySem PyProof.Rows PySem.Spec
def Bg (i:Int):Prop:=i.natAbs<2 ^ 8000
theorem Bg.bits {i:Int}(h:Bg i):Builtin.Int.intBits i<=8000:=by
 unfold Builtin.Int.intBits
 split
 ·exact Nat.zero_le _
 ·rename_i hn
  have h0:i.natAbs≠0:=fun z=>hn (by rw [Int.natAbs_eq_zero.mp z];rfl)
  exact (Nat.log2_lt h0).mpr h
theorem Bg.mulOk {i j:Int}(hi:Bg i)(hj:Bg j):IntMulOk i j:=by
 unfold IntMulOk Builtin.Int.intTooBig
 have h1:=hi.bits
 have h2:=hj.bits
 have h3:(16000:Int)<=bitsLine:=by decide +kernel
 have h4:decide (((Builtin.Int.intBits i:Nat):Int)+((Builtin.Int.intBits j:Nat):Int)>(bitsLine:Int))=false:=decide_eq_false (by omega)
 rw [h4,Bool.and_false]
 exact Bool.false_ne_true
theorem Bg.noPylong {i j:Int}(hj:Bg j):Builtin.divisionGoesByPylong i j=false:=by
 unfold Builtin.divisionGoesByPylong
 have:¬ ((if (j==0)=true then 0 else j.natAbs.log2/30+1)>300):=by
  split
  ·decide
  ·rename_i hn
   have h0:j.natAbs≠0:=fun z=>hn (by rw [Int.natAbs_eq_zero.mp z];rfl)
   have:=(Nat.log2_lt h0).mpr hj
   omega
 dsimp only
 rw [decide_eq_false this]
 rfl
section
variable {X:Cx}
theorem fB:OpR X (binaryOp .Mult) (rI (fun i j=>Bg i∧Bg j) fun i j=>.int (i*j)):=opI fun _ _ _ _ _ _ _ hc q=>mul_int q (hc.1.mulOk hc.2)
theorem Ha:OpR X (binaryOp .FloorDiv) (rI (fun _ j=>0<j∧Bg j) fun i j=>.int (i/j)):=opI fun i j _ _ _ _ _ hc q=>by
 have h1:(0:Int)<j:=hc.1
 exact floordiv_int (by omega) (by rw [Int.fdiv_eq_ediv_of_nonneg i (by omega)];exact q) (.inl hc.2.noPylong)
end
section
variable {X:Cx}{N':List Str}{scope:Scope}{x y2:Str}{px py py2 pt:Pos}{elt iter:Expr}{pos:Pos}{te:TE}{wi:TI}
theorem Dv (S:sZ X.N N' X.env.scope scope x y2)(hc:X.calm=true)(hi:PI X (.Tuple [.Name x px,.Name y2 py2] 0 pt) iter wi)(he:∀ cl C s H fp,PE (bY X N' scope cl C s H fp) elt te)
  (hs:∀ x,foldedSetIterable iter X.env x=pure x:=by intro _;rfl):PE X (.ListComp elt [⟨.Tuple [.Name x px,.Name y2 py2] 0 pt,iter,[],0⟩] scope pos) (Lb X.K wi te):=by
 intro pins s σ H Q I h
 rw [eval_ListComp]
 have hfree:∀ z∈scope.names,z.2 = .free->∃ c,X.env.cells.lookup z.1=some c:=fun z hz hk=>by
  rcases S.ok z hz hk with q | q
  ·exact I.ok.has z.1 (.inl q)
  ·exact I.ok.has z.1 (.inr q)
 refine wpAny_comprehension_free (use:=none) rfl hs (fF hfree) S.kind S.names (thn (hi pins s σ H _ I h) fun xv s1 h1=>thn h1 fun itv s2 h2=>?_)
 obtain ⟨it,fp,tn,J,H2,e,I2,T,st2,f2,hw⟩:=h2
 subst e
 obtain ⟨cl,hcl,hrun⟩:=wI (py:=py2) (pt:=pt) (elt:=elt) (iter:=iter) (pos:=pos) (px:=px) (E:=X.xe) (RR:=fun acc C=>compPost (model X.prog X.w) X.A X.xe none (EP X pins σ Q) acc C) S hc he I2 T st2 f2 hw (fun D C s' H' I' ⟨m,hm⟩ n1 n2 n3 n4 n5 q =>
  ⟨m,hm,fun h' hsb=>⟨.ref D,H',I'.turned (it:=C) (t':=s'.toks) (fun b o hb e=>(hsb.2 b hb).trans e) n3 n1 (.inr n4) n2 n5,rfl,q⟩⟩)
 have ecl:(pure (cN X.env.cells scope.names []):Sem (List (Str×Addr)))=pure cl:=(fF hfree).symm.trans hcl
 have ecl':cN X.env.cells scope.names []=cl:=by
  injection ecl
 rw [ecl']
 exact hrun
end
end L2
namespace L2
open PySem PyProof.Rows PySem.Spec
section
variable {X:Cx}
end
end L2
namespace SR
open PySem PyProof.Rows PySem.Spec
section
variable {prog:Program}{w:World}{A:Around}{E:Value->Shared->Prop}{s:Shared}
end
end SR
namespace L2
open PySem PyProof.Rows PySem.Spec
section
variable {X:Cx}
end
end L2
namespace L2
open PySem PyProof.Rows PySem.Spec
section
variable {X:Cx}
end
end L2
namespace L2
open PySem PyProof.Rows PySem.Spec
section
variable {X:Cx}
end
end L2
namespace L2
open PySem PyProof.Rows PySem.Spec
section
variable {X:Cx}
end
end L2
namespace L2
open PySem PyProof.Rows PySem.Spec
section
variable {X:Cx}
end
def tupIs (K:PySem.W.Frag)(a:Addr)(ns:List Int):Bool :=
 match K.lookup a with
 | some o=>match o.cls,o.data with
  | .type "tuple",.seq its _=>decide (its.size<=1000)&&(its.toList.map fun v=>match v with | .int i _=>some i | _=>none)==ns.map some
  | _,_=>false
 | none=>false
theorem SqT.tupIs {K:PySem.W.Frag}{a:Addr}{ns:List Int}{H:Hp}(h:tupIs K a ns=true):SqT K H a (ns.map V.int):=by
 unfold L2.tupIs at h
 cases hk:K.lookup a with
 | none=>rw [hk] at h;cases h
 | some o =>
  rw [hk] at h
  dsimp only at h
  split at h
  ·rename_i its n hc hd
   rw [Bool.and_eq_true,decide_eq_true_iff,beq_iff_eq] at h
   refine .inr ⟨o,its,n,hk,hc,hd,Nat.le_trans h.1 (by rw [sizeLine_eq];decide),?_⟩
   have key:∀ (ns:List Int) (us:List Value),(us.map fun v=>match v with | .int i _=>some i | _=>none)=ns.map some->bX (ns.map V.int) us:=fun ns=>by
    induction ns with
    | nil =>
     intro us hu
     cases us with
     | nil=>exact .nil
     | cons u us=>cases hu
    | cons i ns ih =>
     intro us hu
     cases us with
     | nil=>cases hu
     | cons u us =>
      rw [List.map_cons,List.map_cons] at hu
      obtain ⟨h1,h2⟩:=List.cons.inj hu
      refine .cons ?_ (ih us h2)
      split at h1
      ·rename_i j t
       obtain rfl:=Option.some.inj h1
       exact ⟨_,rfl⟩
      ·cases h1
   exact key ns _ h.2
  ·cases h
end L2
namespace L2
open PySem PyProof.Rows PySem.Spec
section
variable {X:Cx}
end
def dI (K:PySem.W.Frag)(H:Hp)(as:List Addr)(M:List (List Int)):Prop:=as.length=M.length∧∀ (i:Nat) (a:Addr) (r:List Int),as[i]?=some a->M[i]?=some r->SqL K H a (r.map V.int)
section
variable {K:PySem.W.Frag}{H G:Hp}{as:List Addr}{M:List (List Int)}
theorem dI.on (h:dI K H as M)(s:aN H G):dI K G as M:=⟨h.1,fun i a r e1 e2=>s.seq (h.2 i a r e1 e2)⟩
theorem dI.at (h:dI K H as M){i:Nat}{v:V}(hv:(as.map V.ref)[i]?=some v):∃ (a:Addr) (r:List Int),v = .ref a∧M[i]?=some r∧SqL K H a (r.map V.int):=by
 rw [List.getElem?_map] at hv
 obtain ⟨a,ha,rfl⟩:=Option.map_eq_some_iff.mp hv
 have hi:=(List.getElem?_eq_some_iff.mp ha).1
 obtain ⟨r,hr⟩:∃ r,M[i]?=some r:=⟨_,List.getElem?_eq_getElem (by rw [<- h.1];exact hi)⟩
 exact ⟨a,r,rfl,hr,h.2 i a r ha hr⟩
theorem dI.sub (h:dI K H as M)(f:Nat->Nat)(bs:List Addr)(N:List (List Int))(hl:bs.length=N.length)(h1:∀ i b,bs[i]?=some b->as[f i]?=some b)(h2:∀ i r,N[i]?=some r->M[f i]?=some r):dI K H bs N:=⟨hl,fun i a r e1 e2=>h.2 (f i) a r (h1 i a e1) (h2 i r e2)⟩
theorem dI.erase (h:dI K H as M)(p:Nat):dI K H (as.eraseIdx p) (M.eraseIdx p) :=
 h.sub (fun i=>if i<p then i else i+1) _ _ (by rw [List.length_eraseIdx,List.length_eraseIdx,h.1]) (fun i b e=>by rw [List.getElem?_eraseIdx] at e;split <;> simp_all) (fun i b e=>by rw [List.getElem?_eraseIdx] at e;split <;> simp_all)
end
theorem Om {K:PySem.W.Frag}{J:It}{as:List Addr}{M:List (List Int)}{te:TE}{σ:St}{H:Hp}{Q:VK}(g:List Int->List Int)(rd:lI J H (as.map V.ref))(hR:dI K H as M)(hn:as.length<=sizeLine)
  (he:∀ a r H',r∈M->SqL K H' a (r.map V.int)->aN H H'->∀ N:V->Hp->Prop,(∀ c H'',aN H' H''->(H' c=none)->H'' c=some (.lst ((g r).map V.int))->N (.ref c) H'')->te (some (.ref a)::σ) H' N)
  (hq:∀ D bs H',H D=none->aN H H'->H' D=some (.lst (bs.map V.ref))->(∀ b∈bs,b≠D)->dI K H' bs (M.map g)->Q (.ref D) H'):iI te σ Q J H:=by
 intro D hD
 refine ⟨fun i m ys H2=>m=as.length-i∧i<=as.length∧aN H H2∧H2 D=some (.lst ys)∧∃ bs:List Addr,ys=bs.map V.ref∧bs.length=i∧∀ (j:Nat) (b:Addr) (r:List Int),bs[j]?=some b->M[j]?=some r->b≠D∧H2 b=some (.lst ((g r).map V.int)),⟨as.length,rfl,Nat.zero_le _,fun b o e=>?_,aC,[],rfl,rfl,fun j b r e=>by simp at e⟩,?_⟩
 ·rw [aI (aK e hD)]
  exact e
 ·rintro i m ys H2 ⟨rfl,hi,hs,hd,bs,rfl,hl,hb⟩
  by_cases hlt:i<as.length
  ·have hlt':i<(as.map V.ref).length:=by rw [List.length_map];exact hlt
   obtain ⟨a,r,ha,hr,_⟩:=hR.at (i:=i) (v:=(as.map V.ref)[i]) (List.getElem?_eq_getElem hlt')
   refine .inr ⟨rd.go i H2 hs hlt',by rw [List.length_map];omega,fun v H'=>aN H2 H'∧∃ c,v = .ref c∧c≠D∧H' c=some (.lst ((g r).map V.int)),fun v H' ⟨hs',c,ev,hcD,hc⟩=>⟨hs' D _ hd,as.length-(i+1),by omega,rfl,hlt,fun b o e=>?kp,aC,bs++[c],?app,by rw [List.length_append,hl];rfl,fun j b r' e1 e2=>?la⟩,fun y H' hy=>?stp⟩
   case app =>
    rw [ev,List.map_append]
    rfl
   case kp =>
    rw [aI (aK e hD)]
    exact hs' b o (hs b o e)
   case la =>
    by_cases hj:j<bs.length
    ·rw [List.getElem?_append_left hj] at e1
     obtain ⟨h1,h2⟩:=hb j b r' e1 e2
     exact ⟨h1,by rw [aI h1];exact hs' b _ h2⟩
    ·have hj':j=bs.length:=by
      have:=(List.getElem?_eq_some_iff.mp e1).1
      rw [List.length_append,List.length_singleton] at this
      omega
     subst hj'
     rw [List.getElem?_append_right (Nat.le_refl _),Nat.sub_self] at e1
     obtain rfl:c=b:=Option.some.inj e1
     rw [hl,hr] at e2
     obtain rfl:=Option.some.inj e2
     exact ⟨hcD,by rw [aI hcD];exact hc⟩
   case stp =>
    obtain ⟨rfl,e2⟩:=rd.yl i H2 y H' hs hy
    obtain ⟨a2,r2,rfl,hr2,hs2⟩:=(hR.on hs).at e2
    rw [hr] at hr2
    obtain rfl:=Option.some.inj hr2
    exact he a2 r _ (List.mem_of_getElem? hr) hs2 hs _ fun c H'' s'' hc hc2=>⟨s'',c,rfl,fun z=>(by rw [z,hd] at hc;cases hc),hc2⟩
  ·have e:i=as.length:=by omega
   have hst:=rd.st H2 hs
   rw [List.length_map] at hst
   subst e
   have hlM:=hR.1
   refine .inl ⟨hst,hq D bs H2 hD hs hd (fun b hb'=>?_) ⟨by rw [hl,List.length_map,hlM],fun j b r e1 e2=>?_⟩⟩
   ·obtain ⟨j,hj⟩:=List.getElem?_of_mem hb'
    have hjl:=(List.getElem?_eq_some_iff.mp hj).1
    exact (hb j b _ hj (List.getElem?_eq_getElem (show j<M.length by omega))).1
   ·rw [List.getElem?_map] at e2
    obtain ⟨r',hr',rfl⟩:=Option.map_eq_some_iff.mp e2
    exact SqL.of (hb j b r' e1 hr').2
theorem Ny {K:PySem.W.Frag}{J:It}{as:List Addr}{M:List (List Int)}{te:TE}{σ:St}{H:Hp}{Q:VK}(g:List Int->Int)(rd:lI J H (as.map V.ref))(hR:dI K H as M)(hn:as.length<=sizeLine)
  (he:∀ a r H',r∈M->SqL K H' a (r.map V.int)->aN H H'->∀ N:V->Hp->Prop,(∀ H'',aN H' H''->N (.int (g r)) H'')->te (some (.ref a)::σ) H' N)
  (hq:∀ D H',H D=none->aN H H'->H' D=some (.lst ((M.map g).map V.int))->Q (.ref D) H'):iI te σ Q J H:=by
 intro D hD
 have hlM:=hR.1
 refine ⟨fun i m ys H2=>m=as.length-i∧i<=as.length∧aN H H2∧H2 D=some (.lst ys)∧ys=((M.take i).map g).map V.int,⟨as.length,rfl,Nat.zero_le _,fun b o e=>?_,aC,rfl⟩,?_⟩
 ·rw [aI (aK e hD)]
  exact e
 ·rintro i m ys H2 ⟨rfl,hi,hs,hd,rfl⟩
  by_cases hlt:i<as.length
  ·have hlt':i<(as.map V.ref).length:=by rw [List.length_map];exact hlt
   have hr:M[i]?=some (M[i]'(by omega)):=List.getElem?_eq_getElem (by omega)
   refine .inr ⟨rd.go i H2 hs hlt',by rw [List.length_map,List.length_map,List.length_take];omega,fun v H'=>v = .int (g (M[i]'(by omega)))∧aN H2 H',fun v H' ⟨ev,hs'⟩=>⟨hs' D _ hd,as.length-(i+1),by omega,rfl,hlt,fun b o e=>?kp,aC,?app⟩,fun y H' hy=>?stp⟩
   case app =>
    rw [ev,List.take_add_one,hr,List.map_append,List.map_append]
    rfl
   case kp =>
    rw [aI (aK e hD)]
    exact hs' b o (hs b o e)
   case stp =>
    obtain ⟨rfl,e2⟩:=rd.yl i H2 y H' hs hy
    obtain ⟨a2,r2,rfl,hr2,hs2⟩:=(hR.on hs).at e2
    obtain rfl:=Option.some.inj (hr2.symm.trans hr)
    exact he a2 _ _ (List.mem_of_getElem? hr) hs2 hs _ fun H'' s''=>⟨rfl,s''⟩
  ·have e:i=as.length:=by omega
   have hst:=rd.st H2 hs
   rw [List.length_map] at hst
   subst e
   rw [List.take_of_length_le (by omega)] at hd
   exact .inl ⟨hst,hq D H2 hD hs hd⟩
end L2
namespace L2
open PySem PySem.Spec PyProof.Rows
section
variable {X:Cx}{pins:List (Addr×Obj)}{σ:St}{H:Hp}{s:Shared}{a:Addr}{kvs:List (Key×V)}{k:Key}{A:Around}{E:Value->Shared->Prop}
theorem Dq {v:V}{u r:Value}{Q:Value->Shared->Prop}(I:Inv X pins σ H s)(e:H a=some (.dK kvs))(ry:bJ (kV k) u)(rv:bJ v r)(hz:kvs.length<sizeLine)
  (h1:∀ x,fY kvs k=some x->∀ w' s',Inv X pins σ H s'->bJ x w'->Q w' s') (h2:fY kvs k=none->∀ s',Inv X pins σ (upd H a (.dK (fG kvs k v))) s'->Q r s') :
  wpAny (model X.prog X.w) A (call (.builtin "dict.setdefault") [.ref a,u,r]) Q E s:=by
 obtain ⟨z,hd,vs,rel,dd⟩:=nA I.hok e
 refine call_meetsIn PySem.F.slot_dict_setdefault dd.typeIs PySem.F.entry_dict_setdefault (PySem.F.args_dict_setdefault_3 _ _ _) (kt_meets_setdefault (bN X.prog X.w) a (vS ry) hd r)
  ⟨vs,dd,by rw [<- rel.length];exact z,fun w' hw=>?_,fun hn h' dd' hs=>?_⟩
 ·cases l:fY kvs k with
  | none =>
   have:=iQ.none_of (o:=valueAt vs k) (by rw [<- l];exact rel.val k)
   rw [this] at hw
   cases hw
  | some x =>
   obtain ⟨w2,hw2,rw2⟩:=iQ.some_of (v:=x) (o:=valueAt vs k) (by rw [<- l];exact rel.val k)
   rw [hw] at hw2
   obtain rfl:=Option.some.inj hw2
   exact h1 x l w' _ (I.tok _) rw2
 ·have l:fY kvs k=none:=by
   cases l:fY kvs k with
   | none=>rfl
   | some x =>
    obtain ⟨w2,hw2,_⟩:=iQ.some_of (v:=x) (o:=valueAt vs k) (by rw [<- l];exact rel.val k)
    rw [hn] at hw2
    cases hw2
  have he:∃ q,h'.get? a=some q:=let ⟨q,_,_,hq,_⟩:=dd';⟨q,hq⟩
  have hl:(fG kvs k v).length<=sizeLine:=by have:=jK kvs k v;omega
  exact h2 l _ (rP I (by rw [e];exact True.intro) hs he (wJ hl hd (rel.put k rv) dd'))
end
def Ph (td ty tx:TE):TE:=fun σ H Q=>td σ H fun x H1=>∃ a,x = .ref a∧(∃ kvs,H1 a=some (.dK kvs))∧ty σ H1 fun y H2=>tx σ H2 fun z H3=>∃ kvs k,H3 a=some (.dK kvs)∧y=kV k∧kvs.length<sizeLine∧(∀ v,fY kvs k=some v->Q v H3)∧(fY kvs k=none->Q z (upd H3 a (.dK (fG kvs k z))))
section
variable {X:Cx}{o e f:Expr}{apos cpos:Pos}{td ty tx:TE}
theorem xC (ho:PE X o td)(he:PE X e ty)(hf:PE X f tx)(m:M2 X o "setdefault" apos e f cpos):PE X (.Call (.Attribute o "setdefault" apos) [e,f] [] cpos) (Ph td ty tx):=by
 intro pins s σ H Q I h
 refine wpAny_Call_method m.base m.few m.line PySem.F.plainAttrs_dict PySem.F.slot_dict_setdefault PySem.F.type_dict_setdefault (thn (ho pins s σ H _ I h) fun u s1 ⟨x,H1,I1,rx,a,ex,⟨kvs0,d⟩,q1⟩=>?_)
 subst ex
 obtain rfl:u=Value.ref a:=rx
 obtain ⟨z0,hd0,vs0,rel0,dd0⟩:=nA I1.hok d
 refine ⟨dd0.typeIs,fun b q=>?_,?_⟩
 ·cases q
  obtain ⟨ob,_,_,g1,g2,_⟩:=dd0
  exact ⟨ob,g1,g2.2.1⟩
 rw [m.trees]
 refine Calls.callWith_builtin rfl (Calls.evalArgs_plain (Calls.spliced_cons (thn (he pins s1 σ H1 _ I1 q1) fun iv s2 ⟨y,H2,I2,ry,q2⟩ =>
  Calls.spliced_cons (thn (hf pins s2 σ H2 _ I2 q2) fun fv s3 ⟨z,H3,I3,rz,kvs,k,ea,ey,hz,q3,q4⟩=>Calls.spliced_nil ?_))))
 subst ey
 exact Dq I3 ea ry rz hz (fun v l w' s4 I4 rw'=>⟨v,H3,I4,rw',q3 v l⟩) fun l s4 I4=>⟨z,_,I4,rz,q4 l⟩
theorem uO:eO X (.type "dict") (fun xs H Q=>∃ (a:Addr) (kvs:List (Key×V)),xs=[.ref a]∧H a=some (.dK kvs)∧∀ p,H p=none->Q (.ref p) (upd H p (.dK kvs))):=by
 intro pins s σ H xs us Q I r h
 obtain ⟨a,kvs,rfl,e,q⟩:=h
 obtain ⟨u,rfl,ru⟩:=fV r
 obtain rfl:u = .ref a:=ru
 exact Gz I (.inl e) fun p s' hp I'=>⟨.ref p,_,I',rfl,q p hp⟩
end
end L2
namespace SS
open PySem PyProof.Rows L2
section
variable {prog:Program}{w:World}{A:Around}{E:Value->Shared->Prop}{s:Shared}
theorem Bi {a:Addr}{vs:List (Key×Value)}{ep:Nat}{R:Result->Shared->Prop}(hh:A.handled=none)(hd:(a==sysModules)=false)(hD:Heap.DictAt (bN prog w) s.heap a vs ep)(hz:vs.length<=sizeLine)(S:Addr)(h1:S≠a)(hS:s.heap.get? S=some { cls:=.type "list",data:=.seq #[] })
  (hR:∀ s' acc' c',(∀ b o,b≠S->s.heap.get? b=some o->s'.heap.get? b=some o)->s'.gens=s.gens->s'.os=s.os->s'.heap.get? S=some { cls:=.type "list",dict:=none,data:=.seq acc' c',slots:=#[] }->ItemsOf (rK vs) acc' vs.length->R (.ok (.ret .none)) s') :
  wpAny (model prog w) A.in1 (Builtin.«list.__init__» ⟨[.ref S,.ref a],[]⟩)
   (fun fin s'=>match fin with | .done f=>R (.ok f) s' | .again c'=>c'.quiet=true∧codeAny (model prog w) A c' R s') (fun e s'=>R (.error e) s') s:=by
 show wpAny _ _ (do let old <- Builtin.List.listItems (.ref S);Builtin.List.listUpdate (.ref S) (fun _=>#[]);letGo old.toList.reverse;Builtin.List.listExtendWith (.ref S) (.ref a) .none) _ _ s
 refine wpAny_bind ?_
 unfold Builtin.List.listItems
 refine wpAny_bind (wpAny_seqItems hS rfl (wpAny_pure ?_))
 show wpAny _ _ (updateSeq S (fun _=>#[]) >>= fun _=>letGo (#[]:Array Value).toList.reverse >>= fun _=>Builtin.List.listExtendWith (.ref S) (.ref a) .none) _ _ s
 refine wpAny_bind (wpAny_updateSeq hS rfl ?_)
 have hS₂:=Heap.get?_update_self (Obj.mapSeq (fun _=>(#[]:Array Value))) hS rfl
 have oth:∀ b o,b≠S->s.heap.get? b=some o->(s.heap.update S (Obj.mapSeq (fun _=>(#[]:Array Value)))).get? b=some o :=
  fun b o hb e=>(Heap.get?_update_other _ _ (Ne.symm hb)).trans e
 refine wpAny_bind (wpAny_letGo ?_)
 have hD2:Heap.DictAt (bN prog w) (s.heap.update S (Obj.mapSeq (fun _=>(#[]:Array Value)))) a vs ep:=by
  obtain ⟨o,es,g,r⟩:=hD
  exact ⟨o,es,oth a o (Ne.symm h1) g,r⟩
 refine oG (A:=A) (s:={ s with heap:=s.heap.update S (Obj.mapSeq (fun _=>(#[]:Array Value))) }) hh hd hD2 hz S .none h1 hS₂ fun s' acc' c' kp g1 g2 e1 e2=>?_
 exact hR s' acc' c' (fun b o hb e=>kp b o hb (oth b o hb e)) g1 g2 e1 e2
theorem pK {a:Addr}{vs:List (Key×Value)}{ep:Nat}{Q:Value->Shared->Prop}(hh:A.handled=none)(hd:(a==sysModules)=false)(hD:Heap.DictAt (bN prog w) s.heap a vs ep)(hz:vs.length<=sizeLine)
  (hQ:∀ (s':Shared) (acc:Array Value) (c':Nat),(∀ b o,s.heap.get? b=some o->s'.heap.get? b=some o)->s'.gens=s.gens->s'.os=s.os->s'.heap.get? s.heap.objs.size=some { cls:=.type "list",dict:=none,data:=.seq acc c',slots:=#[] }->ItemsOf (rK vs) acc vs.length->Q (.ref s.heap.objs.size) s') :
  wpAny (model prog w) A (call (.type "list") [.ref a]) Q E s:=by
 have hlt:a<s.heap.objs.size:=by obtain ⟨o,es,g,r⟩:=hD;exact Heap.lt_size g
 refine callType_codes (Q₁:=fun obj s₁=>obj = .ref s.heap.objs.size∧s₁ = { s with heap:=s.heap.push { cls:=.type "list",data:=.seq #[] } }) F.called_list (F.typeCall_list_1 _) F.entry_list_init
  (code_list_new _ ⟨rfl,rfl⟩) fun obj s₁ h₁=>?_
 obtain ⟨rfl,rfl⟩:=h₁
 have hS:(s.heap.push { cls:=.type "list",data:=.seq #[] }).get? s.heap.objs.size=some { cls:=.type "list",data:=.seq #[] }:=Heap.get?_push_size _ rfl
 refine ⟨⟨_,hS,rfl⟩,F.args_list_init_2 _ _,Bi (A:=A.in1) (s:={ s with heap:=s.heap.push { cls:=.type "list",data:=.seq #[] } }) hh hd (oM hD) hz _ (Nat.ne_of_gt hlt) hS fun s' acc' c' kp g1 g2 e1 e2=>?_⟩
 exact ⟨rfl,hQ s' acc' c' (fun b o e=>kp b o (Nat.ne_of_lt (Heap.lt_size e)) (Heap.get?_push_of_some _ e)) g1 g2 e1 e2⟩
end
end SS
namespace L2
open PySem PyProof.Rows
section
variable {X:Cx}
theorem rG:∀ {us:List Value} {ls:List (List Nat)},StrsAre us (ls.map tx)->bX (ls.map T) us
 | [],[],_=>.nil
 | u::us,l::ls,h=>by
  cases h with
  | cons x t r=>exact .cons ⟨_,rfl⟩ (rG r)
theorem wM (hc:X.calm=true):eO X (.type "list") (fun xs H Q=>∃ (p:Addr) (ls:List (List Nat)) (kvs:List (Key×V)),xs=[.ref p]∧H p=some (.dK kvs)∧kvs.map (·.1)=ls.map (fun t=>Sum.inr (tx t))∧∀ (D:Addr),H D=none->Q (.ref D) (upd H D (.lst (ls.map T)))):=by
 intro pins s σ H xs us Q I r h
 obtain ⟨p,ls,kvs,rfl,hq,hk,q⟩:=h
 obtain ⟨u,rfl,ru⟩:=fV r
 cases ru
 obtain ⟨z,hd,vs,rel,dd⟩:=nA I.hok hq
 obtain ⟨o,es,ep,rest⟩:=dd
 have hl:ls.length=kvs.length:=by have:=congrArg List.length hk;simpa using this.symm
 refine SS.pK (vs:=vs) (ep:=ep) (I.ok.hd hc) hd ⟨o,es,rest⟩ (by rw [<- rel.length];exact z) fun s' acc c' kp g1 g2 e1 e2=>?_
 have hv:=rG (qQ hk rel e2)
 have hg:AllBare s'.gens:=by rw [g1];exact I.bare
 have hf:H s.heap.objs.size=none:=I.hok.fresh (Nat.le_refl _)
 have new:cG X.prog X.w (upd H s.heap.objs.size (.lst (ls.map T))) s'.heap s.heap.objs.size (.lst (ls.map T)):=⟨by rw [List.length_map,hl];exact z,acc.toList,c',hv,by simpa using e1⟩
 exact ⟨.ref s.heap.objs.size,_,I.call' (ch:=[]) g2 (Un.laid kp (Nat.le_refl _) hf) (I.hok.laid kp (Nat.le_refl _) new) hg (fun _ z=>nomatch z),rfl,q _ hf⟩
end
end L2
namespace L2
open PySem PyProof.Rows
theorem Lo {K:PySem.W.Frag}{J:It}{vs:List V}{te:TE}{σ:St}{H:Hp}{Q:VK}(g:V->List Int)(rd:lI J H vs)(hn:vs.length<=sizeLine)
  (he:∀ v H',v∈vs->aN H H'->∀ N:V->Hp->Prop,(∀ c H'',aN H' H''->H' c=none->H'' c=some (.lst ((g v).map V.int))->N (.ref c) H'')->te (some v::σ) H' N)
  (hq:∀ D bs H',H D=none->aN H H'->H' D=some (.lst (bs.map V.ref))->(∀ b∈bs,b≠D)->dI K H' bs (vs.map g)->Q (.ref D) H'):iI te σ Q J H:=by
 intro D hD
 refine ⟨fun i m ys H2=>m=vs.length-i∧i<=vs.length∧aN H H2∧H2 D=some (.lst ys)∧∃ bs:List Addr,ys=bs.map V.ref∧bs.length=i∧∀ (j:Nat) (b:Addr) (v:V),bs[j]?=some b->vs[j]?=some v->b≠D∧H2 b=some (.lst ((g v).map V.int)),⟨vs.length,rfl,Nat.zero_le _,fun b o e=>?_,aC,[],rfl,rfl,fun j b r e=>by simp at e⟩,?_⟩
 ·rw [aI (aK e hD)]
  exact e
 ·rintro i m ys H2 ⟨rfl,hi,hs,hd,bs,rfl,hl,hb⟩
  by_cases hlt:i<vs.length
  ·obtain ⟨r,hr⟩:∃ r,vs[i]?=some r:=⟨_,List.getElem?_eq_getElem hlt⟩
   refine .inr ⟨rd.go i H2 hs hlt,by rw [List.length_map];omega,fun v H'=>aN H2 H'∧∃ c,v = .ref c∧c≠D∧H' c=some (.lst ((g r).map V.int)),fun v H' ⟨hs',c,ev,hcD,hc⟩=>⟨hs' D _ hd,vs.length-(i+1),by omega,rfl,hlt,fun b o e=>?kp,aC,bs++[c],?app,by rw [List.length_append,hl];rfl,fun j b r' e1 e2=>?la⟩,fun y H' hy=>?stp⟩
   case app =>
    rw [ev,List.map_append]
    rfl
   case kp =>
    rw [aI (aK e hD)]
    exact hs' b o (hs b o e)
   case la =>
    by_cases hj:j<bs.length
    ·rw [List.getElem?_append_left hj] at e1
     obtain ⟨h1,h2⟩:=hb j b r' e1 e2
     exact ⟨h1,by rw [aI h1];exact hs' b _ h2⟩
    ·have hj':j=bs.length:=by
      have:=(List.getElem?_eq_some_iff.mp e1).1
      rw [List.length_append,List.length_singleton] at this
      omega
     subst hj'
     rw [List.getElem?_append_right (Nat.le_refl _),Nat.sub_self] at e1
     obtain rfl:c=b:=Option.some.inj e1
     rw [hl,hr] at e2
     obtain rfl:=Option.some.inj e2
     exact ⟨hcD,by rw [aI hcD];exact hc⟩
   case stp =>
    obtain ⟨rfl,e2⟩:=rd.yl i H2 y H' hs hy
    rw [hr] at e2
    obtain rfl:=Option.some.inj e2
    exact he r _ (List.mem_of_getElem? hr) hs _ fun c H'' s'' hc hc2=>⟨s'',c,rfl,fun z=>(by rw [z,hd] at hc;cases hc),hc2⟩
  ·have e:i=vs.length:=by omega
   have hst:=rd.st H2 hs
   subst e
   refine .inl ⟨hst,hq D bs H2 hD hs hd (fun b hb'=>?_) ⟨by rw [hl,List.length_map],fun j b r e1 e2=>?_⟩⟩
   ·obtain ⟨j,hj⟩:=List.getElem?_of_mem hb'
    have hjl:=(List.getElem?_eq_some_iff.mp hj).1
    exact (hb j b _ hj (List.getElem?_eq_getElem (show j<vs.length by omega))).1
   ·rw [List.getElem?_map] at e2
    obtain ⟨r',hr',rfl⟩:=Option.map_eq_some_iff.mp e2
    exact SqL.of (hb j b r' e1 hr').2
end L2
namespace L2
open PySem PyProof.Rows
section
variable {X:Cx}{pins:List (Addr×Obj)}{σ:List (Option V)}{H H':Hp}{s:Shared}
theorem Inv.reH (I:Inv X pins σ H s)(free:∀ b,H b=none->H' b=none)(tups:∀ b xs,X.H₀ b=some (.tup xs)->H' b=some (.tup xs))(frzs:∀ b o u,X.H₀ b=some (.frz o u)->H' b=some (.frz o u))(tbls:∀ b ps,X.H₀ b=some (.tbl ps)->∃ more,H' b=some (.tbl (ps++more)))
  (hok:HOk X.prog X.w H' s.heap):Inv X pins σ H' s :=
 ⟨I.ok,I.os,I.bare,⟨I.base.keep,I.base.slot,fun b o e n hx=>free b (I.base.free b o e n hx),I.base.there,tups,frzs,tbls⟩,I.loc,I.cell,free _ I.free,fun x c e=>free _ (I.freeC x c e),fun p hp=>⟨(I.pin p hp).1,free _ (I.pin p hp).2.1,(I.pin p hp).2.2⟩,hok,I.len⟩
theorem zV {P:Program}{w:World}{h:Heap}{a:Addr}{u v:HO}(x:HOk P w H h)(ha:H a=some u)(h1:∀ y,u≠.own y)(h2:∀ xs,u≠.tup xs)(ok:cG P w H h a v):HOk P w (upd H a v) h:=by
 have ho:∀ y b,H b=some (.own y)->upd H a v b=some (.own y):=fun y b e=>by
  rw [aI (fun z=>by rw [z,ha] at e;exact h1 y (Option.some.inj e))];exact e
 have ht:∀ b xs,H b=some (.tup xs)->upd H a v b=some (.tup xs):=fun b xs e=>by
  rw [aI (fun z=>by rw [z,ha] at e;exact h2 xs (Option.some.inj e))];exact e
 intro b o e
 by_cases c:b=a
 ·subst c
  rw [aC] at e
  cases e
  exact ok.stay (fun _ _ _ e=>e) (fun c=>ho b c) ht
 ·rw [aI c] at e
  exact (x b o e).stay (fun _ _ _ e=>e) (fun c=>ho b c) ht
theorem Inv.freeze {a:Addr}{kvs:List (Key×V)}(I:Inv X pins σ H s)(e:H a=some (.dK kvs)):∃ o,s.heap.get? a=some o∧Inv X pins σ (upd H a (.frz o (.dK kvs))) s:=by
 have hx:cG X.prog X.w H s.heap a (.dK kvs):=I.hok a _ e
 obtain ⟨o,ho⟩:∃ o,s.heap.get? a=some o:=by
  obtain ⟨_,_,_,_,o,_,_,q,_⟩:=hx
  exact ⟨o,q⟩
 have ne:∀ b u,X.H₀ b=some u->H b=some u->(∀ k,u≠.dK k)->upd H a (.frz o (.dK kvs)) b=some u:=fun b u _ q n=>by
  rw [aI (fun z=>by rw [z,e] at q;exact n _ (Option.some.inj q).symm)];exact q
 refine ⟨o,ho,I.reH (fun b n=>?_) (fun b xs q=>ne b _ q (I.base.tups b xs q) (fun k z=>nomatch z)) (fun b o' u q=>ne b _ q (I.base.frzs b o' u q) (fun k z=>nomatch z)) (fun b ps q=>?_) (zV I.hok e (fun y z=>nomatch z) (fun xs z=>nomatch z) ⟨ho,hx⟩)⟩
 ·rw [aI (fun z=>by rw [z,e] at n;cases n)];exact n
 ·obtain ⟨m,q'⟩:=I.base.tbls b ps q
  exact ⟨m,by rw [aI (fun z=>by rw [z,e] at q';cases q')];exact q'⟩
end
def Itk (a:Addr)(o:Obj)(kvs:List (Key×V)):It :=
 ⟨fun i H=>H a=some (.frz o (.dK kvs))∧i<kvs.length,fun i H x H'=>H'=H∧∃ kv,kvs[i]?=some kv∧x=kV kv.1,fun i H=>H a=some (.frz o (.dK kvs))∧kvs.length<=i⟩
theorem Ct {P:Program}{w:World}{k:Key}{u:Value}(h:(bN P w).is k u=true):bJ (kV k) u:=by
 cases k with
 | inl i =>
  have h:Value.isInt i u=true:=h
  have:∃ t,u = .int i t:=by cases u <;> simp_all [Value.isInt]
  obtain ⟨t,rfl⟩:=this
  exact ⟨t,rfl⟩
 | inr x =>
  obtain ⟨t,rfl⟩:=Value.isStrOf_shape (show Value.isStrOf x u=true from h)
  exact ⟨t,rfl⟩
theorem Bb {P:Program}{w:World}{K:PySem.W.Frag}{tg:Expr}{a it:Addr}{o:Obj}{kvs:List (Key×V)}{vs:List (Key×Value)}{ep:Nat}(hK:KV kvs vs)(hd:∀ h:Heap,h.get? a=some o->h.DictAt (bN P w) a vs ep) :
  pA P w K tg (Itk a o kvs) [it] it (fun i h=>h.IsKeyIter it a i vs.length ep) where
 mem:=by simp
 obj:=fun i h st b hb=>by
  have e:b=it:=by simpa using hb
  subst e
  obtain ⟨o,e,c,d⟩:=st
  exact ⟨o,e,fun v z=>by rw [d] at z;cases z⟩
 keep:=fun i h h' st k=>st.at fun o e=>k it (by simp) o e
 item:=by
  intro X hP hw hK' hc i pins s σ H E I hf st hg
  subst hP hw hK'
  obtain ⟨ha,hi⟩:=hg
  obtain ⟨ho,_⟩:cG X.prog X.w H s.heap a (.frz o (.dK kvs)):=I.hok a _ ha
  have hl:=hK.length
  obtain ⟨f0,f1,f2,f3,f4,f5⟩:=hf it (by simp)
  have hvi:vs[i]?=some vs[i]:=List.getElem?_eq_getElem (by omega)
  have hki:kvs[i]?=some kvs[i]:=List.getElem?_eq_getElem hi
  have hkk:kvs[i].1=vs[i].1:=by
   have:=hK.keys
   have h1:(kvs.map (·.1))[i]?=(vs.map (·.1))[i]?:=by rw [this]
   rw [List.getElem?_map,List.getElem?_map,hki,hvi] at h1
   exact Option.some.inj h1
  refine wpAny_pyNext_dict_item (k:=vs[i].1) (v:=vs[i].2) st (hd _ ho) hvi fun key h' hkey st' sb=>?_
  have I1:Inv X pins σ H { s with heap:=h' }:=I.turned (t':=s.toks) (fun b o hb e=>(sb.2 b hb).trans e) f0 f1 f3 f4 f5
  exact ⟨key,rfl,letGo_keyiter (s':={ s with heap:=h' }) st' ⟨kV kvs[i].1,H,I1,by rw [hkk];exact Ct hkey,⟨rfl,_,hki,rfl⟩,st',fun b hb=>(hf b hb).1⟩⟩
 done:=by
  intro X hP hw hK' hc i pins s σ H E I hf st hg
  subst hP hw hK'
  obtain ⟨ha,hi⟩:=hg
  obtain ⟨ho,_⟩:cG X.prog X.w H s.heap a (.frz o (.dK kvs)):=I.hok a _ ha
  have hl:=hK.length
  obtain ⟨f0,f1,f2,f3,f4,f5⟩:=hf it (by simp)
  exact wpAny_pyNext_dict_end (I.ok.hd hc) st (hd _ ho) (List.getElem?_eq_none (by omega)) fun h' eb=>⟨rfl,I.turned (t':=s.toks) (fun b o hb e=>eb b o hb e) f0 f1 f3 f4 f5⟩
 self:=fun _ _ _ _ _ st h=>wpAny_pyIter_keyiter st h
def Oz (td:TE):TI:=fun σ H R=>td σ H fun x H1=>∃ a kvs,x = .ref a∧H1 a=some (.dK kvs)∧∀ o,R (Itk a o kvs) (upd H1 a (.frz o (.dK kvs)))
section
variable {X:Cx}{tg:Expr}
theorem Ab {l:Expr}{tl:TE}(hl:PE X l tl):PI X tg l (Oz tl):=by
 intro pins s σ H R I h
 refine thn (hl pins s σ H _ I h) fun v s1 ⟨x,H1,I1,r1,q1⟩=>?_
 obtain ⟨a,kvs,e,ha,q⟩:=q1
 subst e
 cases r1
 obtain ⟨z,hsm,vs,rel,dd⟩:=nA I1.hok ha
 obtain ⟨ep,dat⟩:=dd.dictAt
 obtain ⟨o,ho,I2⟩:=I1.freeze ha
 refine wpAny_pyIter_dict hsm dat ?_
 refine ⟨s1.heap.objs.size,[s1.heap.objs.size],_,_,_,rfl,I2.kept (t':=s1.toks) fun b o e=>Heap.get?_push_of_some _ e,Bb rel (fun h e=>dat.at' fun o' e'=>by rw [ho] at e';rw [<- e'];exact e),⟨_,Heap.get?_push_size _ rfl,rfl,rfl⟩,fun b hb=>?_,q o⟩
 have e:b=s1.heap.objs.size:=by simpa using hb
 subst e
 exact I2.fpOk (Nat.le_refl _) (I2.hok.fresh (Nat.le_refl _))
end
end L2
namespace L2
open PySem PyProof.Rows
section
variable {X:Cx}{o:Expr}{td:TE}{apos cpos:Pos}
end
end L2
namespace L2
open PySem PyProof.Rows PySem.Spec
section
variable {X:Cx}
end
end L2
namespace L2
open PySem PyProof.Rows
section
variable {X:Cx}{pins:List (Addr×Obj)}{σ:St}{H:Hp}{s:Shared}
theorem Inv.thawD {a:Addr}{o:Obj}{kvs k0:List (Key×V)}(I:Inv X pins σ H s)(e:H a=some (.frz o (.dK kvs)))(h0:X.H₀ a=some (.dK k0)):Inv X pins σ (upd H a (.dK kvs)) s:=by
 obtain ⟨_,hx⟩:cG X.prog X.w H s.heap a (.frz o (.dK kvs)):=I.hok a _ e
 refine I.reH (fun b n=>?_) (fun b xs q=>?_) (fun b o' u q=>?_) (fun b ps q=>?_) (zV I.hok e (fun y z=>nomatch z) (fun xs z=>nomatch z) hx)
 ·rw [aI (fun z=>by rw [z,e] at n;cases n)];exact n
 ·rw [aI (fun z=>by rw [z,h0] at q;cases q)];exact I.base.tups b xs q
 ·rw [aI (fun z=>by rw [z,h0] at q;cases q)];exact I.base.frzs b o' u q
 ·rw [aI (fun z=>by rw [z,h0] at q;cases q)];exact I.base.tbls b ps q
def Lu (H₀:Hp)(t:TE):TE:=fun σ H Q=>t σ H fun v H'=>∃ a o kvs k0,H' a=some (.frz o (.dK kvs))∧H₀ a=some (.dK k0)∧Q v (upd H' a (.dK kvs))
theorem pF {e:Expr}{t:TE}(h:PE X e t):PE X e (Lu X.H₀ t):=by
 intro pins s σ H Q I hw
 refine thn (h pins s σ H _ I hw) fun v s1 ⟨x,H1,I1,r1,a,o,kvs,k0,ha,h0,q⟩=>?_
 exact ⟨x,_,I1.thawD ha h0,r1,q⟩
end
section
variable {X:Cx}
theorem Bn:eO X (.builtin "len") (fun xs H Q=>∃ a kvs,xs=[V.ref a]∧Rd H a (.dK kvs)∧Q (.int kvs.length) H):=by
 intro pins s σ H xs us Q I r h
 obtain ⟨a,kvs,rfl,ha,q⟩:=h
 obtain ⟨u,rfl,ru⟩:=fV r
 cases ru
 exact Ob I ha fun t s' I'=>⟨.int kvs.length,H,I',⟨t,rfl⟩,q⟩
end
theorem uH {a:Addr}{o:Obj}{kvs:List (Key×V)}{g:TG}{tb:TS}{D:kL}{σ:St}{H:Hp}(Pv:Nat->St->Hp->Prop)(h0:Pv 0 σ H)(hl:∀ i σ H,i<=kvs.length->Pv i σ H->H a=some (.frz o (.dK kvs)))
  (hs:∀ i kv σ H,kvs[i]?=some kv->Pv i σ H->g (kV kv.1) σ H fun σ2 H2=>tb { D with nx:=Pv (i+1),ct:=Pv (i+1),bk:=D.nx } σ2 H2) (hd:∀ σ H,Pv kvs.length σ H->D.nx σ H) :
  ∃ W:Nat->Nat->St->Hp->Prop,(∃ m,W 0 m σ H)∧∀ i m σ H,W i m σ H ->
   ((Itk a o kvs).stop i H∧D.nx σ H)∨((Itk a o kvs).go i H∧∃ N:St->Hp->Prop,(∀ σ' H',N σ' H'->∃ m',m'<m∧W (i+1) m' σ' H')∧∀ x H',(Itk a o kvs).yld i H x H'->g x σ H' fun σ2 H2=>tb { D with nx:=N,ct:=N,bk:=D.nx } σ2 H2):=by
 refine ⟨fun i m σ H=>m=kvs.length-i∧i<=kvs.length∧Pv i σ H,⟨kvs.length,by simp,Nat.zero_le _,h0⟩,?_⟩
 rintro i m σ H ⟨rfl,hi,p⟩
 have hA:=hl i σ H hi p
 by_cases hlt:i<kvs.length
 ·refine .inr ⟨⟨hA,hlt⟩,Pv (i+1),fun σ' H' p'=>⟨kvs.length-(i+1),by omega,rfl,hlt,p'⟩,fun x H' hy=>?_⟩
  obtain ⟨rfl,kv,e,rfl⟩:=hy
  exact hs i kv σ _ e p
 ·have e:i=kvs.length:=by omega
  subst e
  exact .inl ⟨⟨hA,Nat.le_refl _⟩,hd σ H p⟩
end L2
namespace L2
open PySem PySem.Spec PyProof.Rows
set_option genInjectivity false in
structure nP (N N':List Str)(sc scope:Scope)(x:Str):Prop where
 kind:scope.kind = .function
 cell:scope.names.filter (fun y=>y.2 == .cell)=[(x,.cell)]
 names:∀ y∈scope.names,y.2 = .local->scope.names.lookup y.1=some .local
 var:scope.names.lookup x=some .cell
 ok:∀ y∈scope.names,y.2 = .free->(y.1≠x∧(sc.names.lookup y.1=some .cell∨sc.names.lookup y.1=some .free))
 hd:N'[0]?=some x
 len:N'.length=N.length+1
 sub:∀ i,i<N.length->N'[i+1]?=N[i]?∨(N'[i+1]?.map fun y=>scope.names.lookup y)=some none
 noe:scope.names.lookup ("" : Str)=none
 nol:∀ y∈N'.tail,scope.names.lookup y≠some .local∧scope.names.lookup y≠some .cell
 nd:N'.Nodup
theorem kZ:∀ (names:List (Str×NameKind)) (n:Nat) (acc:List (Str×Addr)),names.filter (fun y=>y.2 == .cell)=[]->cellsFrom n names acc=acc
 | [],_,_,_=>rfl
 | (y,k)::r,n,acc,h=>by
  rw [List.filter_cons] at h
  unfold cellsFrom
  by_cases hk:(k==NameKind.cell)=true
  ·rw [if_pos hk] at h
   cases h
  ·rw [if_neg hk] at h
   rw [if_neg hk]
   exact kZ r n acc h
theorem kA {x:Str}:∀ (names:List (Str×NameKind)) (n:Nat) (acc:List (Str×Addr)),names.filter (fun y=>y.2 == .cell)=[(x,.cell)]->cellsFrom n names acc=(x,n)::acc
 | [],_,_,h=>by cases h
 | (y,k)::r,n,acc,h=>by
  rw [List.filter_cons] at h
  unfold cellsFrom
  by_cases hk:(k==NameKind.cell)=true
  ·rw [if_pos hk] at h
   obtain ⟨h1,h2⟩:=List.cons.inj h
   rw [if_pos hk,kZ r _ _ h2]
   cases h1
   rfl
  ·rw [if_neg hk] at h
   rw [if_neg hk]
   exact kA r n acc h
theorem lE:∀ (names:List (Str×NameKind)) (h:Heap),names.filter (fun y=>y.2 == .cell)=[]->pushCells h names=h
 | [],_,_=>rfl
 | (y,k)::r,h0,h=>by
  rw [List.filter_cons] at h
  unfold pushCells
  by_cases hk:(k==NameKind.cell)=true
  ·rw [if_pos hk] at h
   cases h
  ·rw [if_neg hk] at h
   rw [if_neg hk]
   exact lE r h0 h
theorem kC {x:Str}:∀ (names:List (Str×NameKind)) (h:Heap),names.filter (fun y=>y.2 == .cell)=[(x,.cell)]->pushCells h names=h.push { cls:=.type "cell",data:=.cell none }
 | [],_,h=>by cases h
 | (y,k)::r,h0,h=>by
  rw [List.filter_cons] at h
  unfold pushCells
  by_cases hk:(k==NameKind.cell)=true
  ·rw [if_pos hk] at h
   obtain ⟨h1,h2⟩:=List.cons.inj h
   rw [if_pos hk,lE r _ h2]
  ·rw [if_neg hk] at h
   rw [if_neg hk]
   exact kC r h0 h
section
variable {M:Model}{A:Around}{E:Value->Shared->Prop}{s:Shared}
theorem kM {scope:Scope}{x:Str}{globals:Addr}{closure:List (Str×Addr)}{qual:Str}{func:Option Addr}{code:Value}{outer:Env}{builtins:Addr}{Q:Env->Shared->Prop}(hc:scope.names.filter (fun y=>y.2 == .cell)=[(x,.cell)])
  (hQ:Q (newEnv scope s.heap.objs.size globals ((x,s.heap.objs.size+1)::closure) qual func code (some outer) builtins) { s with heap:=(s.heap.push { cls:=.type "dict",data:=.dict #[] }).push { cls:=.type "cell",data:=.cell none } }) :
  wpAny M A (newFunctionEnv scope globals closure [] qual func code (some outer) builtins) Q E s:=by
 simp only [newFunctionEnv,Option.isSome_some,if_true]
 refine wpAny_bind (wpAny_alloc ?_)
 refine wpAny_bind (wpAny_layCells _ (fun name kind cells=>by cases hkc:kind==NameKind.cell <;> simp [hkc]) _ _ _ _ ?_)
 rw [show ({ s with heap:=s.heap.push { cls:=.type "dict",data:=.dict #[] } }:Shared).heap.objs.size=s.heap.objs.size+1 from Heap.size_push ..]
 rw [kA _ _ _ hc,kC _ _ hc]
 refine wpAny_bind (wpAny_pure ?_)
 exact wpAny_pure hQ
end
abbrev dZ (X:Cx)(x:Str)(N':List Str)(scope:Scope)(cl:List (Str×Addr))(C:Addr)(s:Shared)(H:Hp)(fp:List Addr):Cx :=
 { X with env:=compEnvC scope cl C X.env,N:=N',s₀:=s,H₀:=H,outer:=X.stack,stack:=X.stack,ex:=fp,fn:=fun y=>y==x,xe:=fun _ _=>False }
theorem Fu {x:Str}{c:Addr}{cl:List (Str×Addr)}:List.lookup x ((x,c)::cl)=some c:=by
 rw [List.lookup_cons,beq_self_eq_true]
theorem rS {x y:Str}{c:Addr}{cl:List (Str×Addr)}(h:y≠x):List.lookup y ((x,c)::cl)=List.lookup y cl:=by
 rw [List.lookup_cons,beq_false_of_ne h]
section
variable {X:Cx}{N':List Str}{scope:Scope}{x:Str}{px:Pos}{elt iter:Expr}{cds:List Expr}{pos:Pos}{te:TE}{tc:TT}{wi:TI}
theorem xW (S:nP X.N N' X.env.scope scope x)(hc:X.calm=true)(ht:∀ cl C s H fp,PTL (dZ X x N' scope cl C s H fp) cds tc)(he:∀ cl C s H fp,PE (dZ X x N' scope cl C s H fp) elt te)
  {pins:List (Addr×Obj)} {σ:St} {H:Hp} {s:Shared} {Q:VK} {E:Value->Shared->Prop} {RR:Value->Addr->Result->Shared->Prop} {it:Addr} {fp:List Addr} {tn:Nat->Heap->Prop} {J:It}
  (I:Inv X pins σ H s) (T:pA X.prog X.w X.K (.Name x px) J fp it tn) (st:tn 0 s.heap) (f2:∀ b∈fp,jB X pins H b)
  (hw:eQ tc te σ Q J H)
  (hRR:∀ D C s' H',Inv X pins σ H' s'->(∃ m,s'.heap.Ns C m)->C≠X.env.locals->(∀ y c,X.env.cells.lookup y=some c->c≠C)->H' C=none->X.s₀.heap.objs.size<=C->(∀ p∈X.pn++pins,p.1≠C)->Q (.ref D) H'->RR (.ref D) C (.ok .next) s') :
  ∃ cl,closureFor scope X.env=pure cl∧wpAny (model X.prog X.w) X.A (newList []) (fun acc s₃=>wpAny (model X.prog X.w) X.A (newFunctionEnv scope X.env.globals cl [] X.env.qual none .none (some X.env)) (fun cenv s₄ =>
   codeAny (model X.prog X.w) X.A (.compStart (.ListComp elt [⟨.Name x px,iter,cds,0⟩] scope pos) 0 (.ref it) acc { cenv with scope:=relabel scope X.env }) (RR acc cenv.locals) s₄) E s₃) E s:=by
 have hfree:∀ z∈scope.names,z.2 = .free->∃ c,X.env.cells.lookup z.1=some c:=fun z hz hk=>by
  rcases (S.ok z hz hk).2 with q | q
  ·exact I.ok.has z.1 (.inl q)
  ·exact I.ok.has z.1 (.inr q)
 refine ⟨_,fF hfree,?_⟩
 have clS:∀ y c,(cN X.env.cells scope.names []).lookup y=some c->X.env.cells.lookup y=some c:=fun y c=>iJ scope.names [] hfree fun q=>by cases q
 generalize hcl:cN X.env.cells scope.names []=cl at clS
 have clH:∀ y,scope.names.lookup y=some .free->∃ c,cl.lookup y=some c:=fun y hy=>by
  rw [<- hcl]
  exact kW scope.names [] (cP hy)
 refine wpAny_newObj_type (kM S.cell ?_)
 have I3:Inv X pins σ (upd H s.heap.objs.size (.lst [])) { s with heap:=s.heap.push { cls:=.type "list",data:=.seq ([]:List Value).toArray } }:=I.lnew (t':=s.toks) .nil (Nat.zero_le _)
 obtain ⟨W,⟨m0,w0⟩,turn⟩:=hw s.heap.objs.size I.fresh
 dsimp only
 generalize hs3:({ s with heap:=s.heap.push { cls:=.type "list",data:=.seq ([]:List Value).toArray } }:Shared)=s3 at I3
 have hh3:s3.heap=s.heap.push { cls:=.type "list",data:=.seq ([]:List Value).toArray }:=by rw [<- hs3]
 have hsz3:s3.heap.objs.size=s.heap.objs.size+1:=by rw [hh3,Heap.size_push]
 rw [<- hh3]
 generalize hh₁:(s3.heap.push { cls:=.type "dict",data:=.dict #[] }).push { cls:=.type "cell",data:=.cell none }=h₁
 have old:∀ b o,s3.heap.get? b=some o->h₁.get? b=some o:=fun b o e=>by rw [<- hh₁];exact Heap.get?_push_of_some _ (Heap.get?_push_of_some _ e)
 have old0:∀ b o,s.heap.get? b=some o->h₁.get? b=some o:=fun b o e=>old b o (by rw [hh3];exact Heap.get?_push_of_some _ e)
 have hns₁:h₁.Ns s3.heap.objs.size fun _=>none:=by rw [<- hh₁];exact (Heap.Ns.new s3.heap (.type "dict")).keeps fun b o e=>Heap.get?_push_of_some _ e
 have hzp:(s3.heap.push { cls:=.type "dict",data:=.dict #[] }).objs.size=s3.heap.objs.size+1:=Heap.size_push ..
 have hce:h₁.IsCell (s3.heap.objs.size+1) none:=⟨_,by rw [<- hh₁,<- hzp];exact Heap.get?_push_size _ rfl,rfl⟩
 have CneL:s3.heap.objs.size≠X.env.locals:=Nat.ne_of_gt I3.lt
 have CneC:∀ y c,X.env.cells.lookup y=some c->c<s3.heap.objs.size:=fun y c e=>by
  obtain ⟨v,q⟩:=I3.cell y c e
  exact q.lt
 have CneP:∀ p∈X.pn++pins,p.1<s3.heap.objs.size:=fun p hp=>Heap.lt_size (I3.pin p hp).1
 have fpLt:∀ b∈fp,b<s3.heap.objs.size:=fun b hb=>by
  obtain ⟨o,e,_⟩:=T.obj 0 s.heap st b hb
  rw [hsz3]
  exact Nat.lt_succ_of_lt (Heap.lt_size e)
 have fpD:∀ b∈fp,b≠s.heap.objs.size:=fun b hb=>by
  obtain ⟨o,e,_⟩:=T.obj 0 s.heap st b hb
  exact Nat.ne_of_lt (Heap.lt_size e)
 generalize hC1:s3.heap.objs.size+1=C1 at hce hzp
 have C1gt:s3.heap.objs.size<C1:=by rw [<- hC1];exact Nat.lt_succ_self _
 have cases':∀ y c,List.lookup y ((x,C1)::cl)=some c->(y=x∧c=C1)∨(y≠x∧cl.lookup y=some c):=fun y c e=>by
  by_cases hy:y=x
  ·subst hy
   rw [Fu] at e
   exact .inl ⟨rfl,(Option.some.inj e).symm⟩
  ·rw [rS hy] at e
   exact .inr ⟨hy,e⟩
 have ltC1:∀ y c,cl.lookup y=some c->c<s3.heap.objs.size:=fun y c e=>CneC y c (clS y c e)
 have ok':(dZ X x N' scope ((x,C1)::cl) s3.heap.objs.size s3 (upd H s.heap.objs.size (.lst [])) fp).Ok:=by
  refine ⟨I3.ok.mod,?_,I3.ok.glob,I3.ok.blt,Nat.le_refl _,fun y z c h1 h2=>?_,fun y hy=>?_,fun y c hf e=>?_,I3.ok.hd,I3.ok.frames,.inl rfl,fun b hb=>⟨Nat.ne_of_lt (fpLt b hb),fun y c e=>?_⟩,
   fun b o e=>I3.bs b o e,Nat.le_trans I3.ok.bsz I3.sz,fun b o e hb=>?_,fun b hb z=>?_,I3.stack,I3.stkFree⟩
  ·show (relabel scope X.env).kind = .function
   exact S.kind
  ·rcases cases' y c h1 with ⟨e1,e2⟩ | ⟨n1,e1⟩
   ·rcases cases' z c h2 with ⟨e3,e4⟩ | ⟨n3,e3⟩
    ·rw [e1,e3]
    ·exact absurd (ltC1 z c e3) (by rw [e2];exact Nat.not_lt.mpr (Nat.le_of_lt C1gt))
   ·rcases cases' z c h2 with ⟨e3,e4⟩ | ⟨n3,e3⟩
    ·exact absurd (ltC1 y c e1) (by rw [e4];exact Nat.not_lt.mpr (Nat.le_of_lt C1gt))
    ·exact I3.ok.inj y z c (clS y c e1) (clS z c e3)
  ·by_cases hyx:y=x
   ·subst hyx
    exact ⟨C1,Fu⟩
   have hy':(relabel scope X.env).names.lookup y=some .cell∨(relabel scope X.env).names.lookup y=some .free:=hy
   rw [aZ] at hy'
   cases q:scope.names.lookup y with
   | none=>rw [q] at hy';rcases hy' with z | z <;> cases z
   | some k =>
    have hm:=cP q
    cases k with
    | free =>
     obtain ⟨c,hc'⟩:=clH y q
     exact ⟨c,(rS hyx).trans hc'⟩
    | cell =>
     have:(y,NameKind.cell)∈scope.names.filter (fun y=>y.2 == .cell):=List.mem_filter.mpr ⟨hm,rfl⟩
     rw [S.cell] at this
     exact absurd (congrArg Prod.fst (List.mem_singleton.mp this)) hyx
    | «local» => rw [q] at hy';rcases hy' with z | z <;> simp at z
    | globalExplicit=>rw [q] at hy';rcases hy' with z | z <;> simp at z
    | globalImplicit=>rw [q] at hy';rcases hy' with z | z <;> simp at z
  ·have hyx:y=x:=by simpa using hf
   rcases cases' y c e with ⟨_,e2⟩ | ⟨n1,_⟩
   ·rw [e2];exact Nat.le_of_lt C1gt
   ·exact absurd hyx n1
  ·rcases cases' y c e with ⟨_,e2⟩ | ⟨n1,e1⟩
   ·rw [e2];exact fun z=>absurd (fpLt b hb) (by rw [<- z];exact Nat.not_lt.mpr (Nat.le_of_lt C1gt))
   ·exact (f2 b hb).2.2.2.2.1 y c (clS y c e1)
  ·rcases (f2 b hb).2.2.2.1 with z | z
   ·exact I.ok.noex b o e z
   ·exact absurd (Nat.lt_of_lt_of_le (Heap.lt_size e) (Nat.le_trans I.ok.bsz z)) (Nat.lt_irrefl _)
  ·rcases List.mem_cons.mp (I3.stkSub b z) with q | q
   ·exact (f2 b hb).2.1 q
   ·exact (f2 b hb).2.2.1 q
 have fpOk':∀ {H':Hp},(∀ b∈fp,H' b=none)->∀ b∈fp,jB (dZ X x N' scope ((x,C1)::cl) s3.heap.objs.size s3 (upd H s.heap.objs.size (.lst [])) fp) pins H' b:=fun hn b hb =>
  ⟨hn b hb,Nat.ne_of_lt (fpLt b hb),fun z=>by
   rcases List.mem_cons.mp (I3.stkSub b z) with q | q
   ·exact (f2 b hb).2.1 q
   ·exact (f2 b hb).2.2.1 q,.inl hb,fun y c e=>by
   rcases cases' y c e with ⟨_,e2⟩ | ⟨n1,e1⟩
   ·rw [e2];exact fun z=>absurd (fpLt b hb) (by rw [<- z];exact Nat.not_lt.mpr (Nat.le_of_lt C1gt))
   ·exact (f2 b hb).2.2.2.2.1 y c (clS y c e1),(f2 b hb).2.2.2.2.2⟩
 have I4:Inv (dZ X x N' scope ((x,C1)::cl) s3.heap.objs.size s3 (upd H s.heap.objs.size (.lst [])) fp) pins (none::σ) (upd H s.heap.objs.size (.lst [])) { s3 with heap:=h₁ }:=by
  refine ⟨ok',rfl,I3.bare,Un.kept old,⟨_,hns₁,fun i y v e1 e2 vis=>?_⟩,fun y c e=>?_,?_,fun y c e=>?_,fun p hp=>?_,I3.hok.kept old,?_⟩
  ·cases i with
   | zero=>cases e2
   | succ i =>
    have e2':σ[i]?=some (some v):=by simpa using e2
    have hi:i<X.N.length:=by rw [<- I3.len];exact (List.getElem?_eq_some_iff.mp e2').1
    have vis':(relabel scope X.env).names.lookup y=some .local∨(relabel scope X.env).names.lookup y=some .cell∨(relabel scope X.env).names.lookup y=some .free:=vis
    have e1':N'[i+1]?=some y:=e1
    rcases S.sub i hi with q | q
    ·rw [e1'] at q
     have hy:X.N[i]?=some y:=q.symm
     have hmem:y∈N'.tail:=by
      rw [List.mem_iff_getElem?]
      exact ⟨i,by rw [List.getElem?_tail];exact e1'⟩
     have hfr:scope.names.lookup y=some .free:=by
      rw [aZ] at vis'
      cases q2:scope.names.lookup y with
      | none=>rw [q2] at vis';rcases vis' with z | z | z <;> cases z
      | some k =>
       cases k with
       | free=>rfl
       | cell=>exact absurd q2 (S.nol y hmem).2
       | «local» => exact absurd q2 (S.nol y hmem).1
       | globalExplicit=>rw [q2] at vis';rcases vis' with z | z | z <;> simp at z
       | globalImplicit=>rw [q2] at vis';rcases vis' with z | z | z <;> simp at z
     have hyx:y≠x:=fun z=>by rw [z,S.var] at hfr;cases hfr
     have hok:=(S.ok (y,.free) (cP hfr) rfl).2
     obtain ⟨m,hn,hl⟩:=I3.loc
     have visX:Vis X.env.scope y:=by
      rcases hok with z | z
      ·exact .inr (.inl z)
      ·exact .inr (.inr z)
     obtain ⟨u,r,l⟩:=hl i y v hy e2' visX
     refine ⟨u,r,.inr ⟨?_,?_⟩⟩
     ·show (relabel scope X.env).names.lookup y=some .cell∨(relabel scope X.env).names.lookup y=some .free
      rw [aZ,hfr,Option.map_some]
      by_cases hcnd:(NameKind.free==NameKind.free&&X.env.scope.kind == .function&&X.env.kindOf y==some .cell)=true
      ·left
       rw [if_pos hcnd]
      ·right
       rw [if_neg hcnd]
     ·rcases l with ⟨k,_⟩ | ⟨k,c,e,z⟩
      ·have k':X.env.scope.names.lookup y=some .local:=k
       have hok':X.env.scope.names.lookup y=some .cell∨X.env.scope.names.lookup y=some .free:=hok
       rw [k'] at hok'
       rcases hok' with z | z <;> cases z
      ·obtain ⟨c',e'⟩:=clH y hfr
       have e3:=clS y c' e'
       rw [e] at e3
       cases e3
       obtain ⟨o,ho,hd⟩:=z
       exact ⟨c,(rS hyx).trans e',o,old c o ho,hd⟩
    ·rw [e1'] at q
     have q:scope.names.lookup y=none:=Option.some.inj q
     rw [aZ,q] at vis'
     rcases vis' with z | z | z <;> cases z
  ·rcases cases' y c e with ⟨_,e2⟩ | ⟨n1,e1⟩
   ·exact ⟨none,by rw [e2];exact hce⟩
   ·obtain ⟨v,o,ho,hd⟩:=I3.cell y c (clS y c e1)
    exact ⟨v,o,old c o ho,hd⟩
  ·show upd H s.heap.objs.size (.lst []) s3.heap.objs.size=none
   exact I3.hok.fresh (Nat.le_refl _)
  ·rcases cases' y c e with ⟨_,e2⟩ | ⟨n1,e1⟩
   ·rw [e2];exact I3.hok.fresh (Nat.le_of_lt C1gt)
   ·exact I3.freeC y c (clS y c e1)
  ·obtain ⟨e,n,ne,nf,d⟩:=I3.pin p hp
   refine ⟨old _ _ e,n,Nat.ne_of_lt (CneP p hp),fun z=>?_,d⟩
   rcases List.mem_cons.mp (I3.stkSub p.1 z) with q | q
   ·exact ne q
   ·exact nf q
  ·show (none::σ).length=N'.length
   rw [S.len,List.length_cons,I3.len]
 have st4:tn 0 h₁:=T.keep 0 s.heap h₁ st fun b _ o e=>old0 b o e
 have hvar:Loc (relabel scope X.env) x:=by
  right
  show (relabel scope X.env).names.lookup x=some .cell
  rw [aZ,S.var,Option.map_some]
  rfl
 have loop:∀ s₄:Shared,s₄ = { s3 with heap:=h₁ } ->
   codeAny (model X.prog X.w) X.A (.compLoop (.ListComp elt [⟨.Name x px,iter,cds,0⟩] scope pos) 0 (.ref it) (.ref s.heap.objs.size) (compEnvC scope ((x,C1)::cl) s3.heap.objs.size X.env)) (RR (.ref s.heap.objs.size) s3.heap.objs.size) s₄:=by
  rintro s₄ rfl
  refine fW (fun n s'=>∃ i v0 ys H',Inv (dZ X x N' scope ((x,C1)::cl) s3.heap.objs.size s3 (upd H s.heap.objs.size (.lst [])) fp) pins (v0::σ) H' s'∧tn i s'.heap∧(∀ b∈fp,H' b=none)∧W i n ys H') ?_ m0
   ⟨0,none,[],_,I4,st4,fun b hb=>by rw [aI (fpD b hb)];exact (f2 b hb).1,w0⟩
  rintro n s5 ⟨i,v0,ys,H5,I5,st5,fr5,w5⟩
  rcases turn i n ys H5 w5 with ⟨stop,qn⟩ | ⟨go,hz,N,hN,Nn,hNn,step⟩
  ·refine thn (T.done (dZ X x N' scope ((x,C1)::cl) s3.heap.objs.size s3 (upd H s.heap.objs.size (.lst [])) fp) rfl rfl rfl hc i pins s5 (v0::σ) H5 (fun _ _=>False) I5 (fpOk' fr5) st5 stop) fun r s6 ⟨hr,I6⟩=>?_
   subst hr
   have hch:∀ b∈fp,(b∈X.ex∨X.s₀.heap.objs.size<=b)∧b≠X.env.locals∧(∀ x c,X.env.cells.lookup x=some c->c≠b)∧∀ p∈X.pn++pins,p.1≠b:=fun b hb =>
    ⟨(f2 b hb).2.2.2.1,(f2 b hb).2.1,(f2 b hb).2.2.2.2.1,(f2 b hb).2.2.2.2.2⟩
   have I7:Inv X pins σ H5 s6:=I3.call' (ch:=fp) I6.os I6.base I6.hok I6.bare hch
   obtain ⟨m,hm,_⟩:=I6.loc
   exact hRR s.heap.objs.size s3.heap.objs.size s6 H5 I7 ⟨m,hm⟩ CneL (fun y c e=>Nat.ne_of_lt (CneC y c e)) I6.free (Nat.le_trans I3.sz (Nat.le_refl _)) (fun p hp=>Nat.ne_of_lt (CneP p hp)) qn
  ·refine thn (T.item (dZ X x N' scope ((x,C1)::cl) s3.heap.objs.size s3 (upd H s.heap.objs.size (.lst [])) fp) rfl rfl rfl hc i pins s5 (v0::σ) H5 (fun _ _=>False) I5 (fpOk' fr5) st5 go) fun r s6 ⟨u,hr,h6⟩=>?_
   subst hr
   refine thn h6 fun _ s7 ⟨y,H7,I7,r7,y7,st7,fr7⟩=>?_
   have I7':=I7.pinned (fpOk' fr7) (T.obj _ _ st7)
   refine wpAny_assign_Name (lL (i:=0) (v:=y) I7' S.nd S.hd hvar r7 (fun s8 I8=>?_) (.inl (beq_self_eq_true x)))
   have I8':Inv (dZ X x N' scope ((x,C1)::cl) s3.heap.objs.size s3 (upd H s.heap.objs.size (.lst [])) fp) (pins++jI fp s7.heap) (some y::σ) H7 s8:=I8
   refine thn (ht _ s3.heap.objs.size s3 (upd H s.heap.objs.size (.lst [])) fp _ s8 (some y::σ) H7 (fun b H''=>if b=true then te (some y::σ) H'' N else Nn H'') I8' (step y H7 y7)) fun okb s8 ⟨H8,I8,q8⟩=>?_
   cases okb with
   | false =>
    have q8':Nn H8:=by simpa using q8
    obtain ⟨m',hm,w9⟩:=hNn H8 q8'
    refine ⟨m',hm,i+1,some y,ys,_,I8.unpinned,T.keep _ _ _ st7 fun b hb o e=>(I8.pin (b,o) (List.mem_append_right _ (List.mem_append_right _ (cK hb e)))).1,fun b hb=>?_,w9⟩
    obtain ⟨o,e,d⟩:=T.obj _ _ st7 b hb
    exact (I8.pin (b,o) (List.mem_append_right _ (List.mem_append_right _ (cK hb e)))).2.1
   | true =>
    refine thn (he _ s3.heap.objs.size s3 (upd H s.heap.objs.size (.lst [])) fp _ s8 (some y::σ) H8 N I8 (by simpa using q8)) fun w s9 ⟨v,H9,I9,r9,q9⟩=>?_
    obtain ⟨hD9,m',hm,w9⟩:=hN v H9 q9
    refine thn (gA _ s9 (some y::σ) H9 (.ref s.heap.objs.size) [v] (.ref s.heap.objs.size) [w] (fun z H10=>z = .non∧H10=upd H9 s.heap.objs.size (.lst (ys++[v]))) I9 rfl (.cons r9 .nil) ⟨s.heap.objs.size,ys,v,rfl,rfl,hD9,hz,rfl,rfl⟩) fun _ s10 ⟨z,H10,I10,_,ez,e10⟩=>?_
    subst e10
    refine ⟨m',hm,i+1,some y,ys++[v],_,I10.unpinned,T.keep _ _ _ st7 fun b hb o e=>(I10.pin (b,o) (List.mem_append_right _ (List.mem_append_right _ (cK hb e)))).1,fun b hb=>?_,w9⟩
    obtain ⟨o,e,d⟩:=T.obj _ _ st7 b hb
    exact (I10.pin (b,o) (List.mem_append_right _ (List.mem_append_right _ (cK hb e)))).2.1
 exact codeAny_compStart_list (loop _ (by rw [<- hs3])) (T.self X.A 0 _ _ _ st4 (loop _ (by rw [<- hs3])))
end
end L2
namespace L2
open PySem PySem.Spec PyProof.Rows
section
variable {X:Cx}{N':List Str}{scope:Scope}{x:Str}{px:Pos}{elt iter:Expr}{cds:List Expr}{pos:Pos}{te:TE}{tc:TT}{wi:TI}
theorem Ch {at':St->VK->It->Hp->Prop}(S:nP X.N N' X.env.scope scope x)(hc:X.calm=true)(hi:PI X (.Name x px) iter wi)(ht:∀ cl C s H fp,PTL (dZ X x N' scope cl C s H fp) cds tc)(he:∀ cl C s H fp,PE (dZ X x N' scope cl C s H fp) elt te)(cv:∀ σ Q J H,at' σ Q J H->eQ tc te σ Q J H)
  (hs:∀ x,foldedSetIterable iter X.env x=pure x:=by intro _;rfl):PE X (.ListComp elt [⟨.Name x px,iter,cds,0⟩] scope pos) (fun σ H Q=>wi σ H (at' σ Q)):=by
 intro pins s σ H Q I h
 rw [eval_ListComp]
 have hfree:∀ z∈scope.names,z.2 = .free->∃ c,X.env.cells.lookup z.1=some c:=fun z hz hk=>by
  rcases (S.ok z hz hk).2 with q | q
  ·exact I.ok.has z.1 (.inl q)
  ·exact I.ok.has z.1 (.inr q)
 refine wpAny_comprehension_free (use:=none) rfl hs (fF hfree) S.kind S.names (thn (hi pins s σ H _ I h) fun xv s1 h1=>thn h1 fun itv s2 h2=>?_)
 obtain ⟨it,fp,tn,J,H2,e,I2,T,st2,f2,hw⟩:=h2
 subst e
 obtain ⟨cl,hcl,hrun⟩:=xW (tc:=tc) (cds:=cds) (elt:=elt) (iter:=iter) (pos:=pos) (px:=px) (E:=X.xe) (RR:=fun acc C=>compPost (model X.prog X.w) X.A X.xe none (EP X pins σ Q) acc C) S hc ht he I2 T st2 f2 (cv _ _ _ _ hw) (fun D C s' H' I' ⟨m,hm⟩ n1 n2 n3 n4 n5 q =>
  ⟨m,hm,fun h' hsb=>⟨.ref D,H',I'.turned (it:=C) (t':=s'.toks) (fun b o hb e=>(hsb.2 b hb).trans e) n3 n1 (.inr n4) n2 n5,rfl,q⟩⟩)
 have ecl:(pure (cN X.env.cells scope.names []):Sem (List (Str×Addr)))=pure cl:=(fF hfree).symm.trans hcl
 have ecl':cN X.env.cells scope.names []=cl:=by
  injection ecl
 rw [ecl']
 exact hrun
end
theorem xQ {outer inner:Scope}(h:∀ y∈inner.names,y.2 = .free->outer.names.lookup y.1=some .cell∨outer.names.lookup y.1=some .free)(env:Env):∀ y∈inner.names,y.2 = .free->(relabel outer env).names.lookup y.1=some .cell∨(relabel outer env).names.lookup y.1=some .free:=fun y hy hk=>by
 rw [aZ]
 rcases h y hy hk with z | z
 ·left
  rw [z,Option.map_some]
  rfl
 ·rw [z,Option.map_some]
  by_cases hcnd:(NameKind.free==NameKind.free&&env.scope.kind == .function&&env.kindOf y.1==some .cell)=true
  ·left
   rw [if_pos hcnd]
  ·right
   rw [if_neg hcnd]
end L2
namespace L2
open PySem PyProof.Rows PySem.Spec
section
variable {X:Cx}
theorem Bx {pins:List (Addr×Obj)}{σ:St}{H:Hp}{s:Shared}{A:Around}(I:Inv X pins σ H s)(hu:A.units<cLine){D F:Addr}{ls:List (List Nat)}(h1:SqL X.K H D (ls.map T))(h2:SqL X.K H F (ls.map T)):SeqAt.EqAt A s (.ref D) (.ref F) true:=by
 by_cases hne:D=F
 ·subst hne
  exact SeqAt.EqAt.same _
 obtain ⟨its,r,pl,_⟩:=I.list h1
 obtain ⟨its2,r2,pl2,_⟩:=I.list h2
 have l1:=r.length
 have l2:=r2.length
 have z:=SeqAt.EqAt.of_refs hne (SeqAt.RcAt.lists (A:=A) (s:=s) (e:=fun _=>true) pl.isList pl2.isList (by rw [List.size_toArray,List.size_toArray];omega) hu fun j g1 g2=>?_)
 ·rw [show (List.range its.toArray.size).all (fun _=>true)=true by simp] at z
  exact z
 ·have hj:j<ls.length:=by
   rw [List.length_map] at l1
   rw [List.size_toArray] at g1
   omega
  obtain ⟨u',e1,q1⟩:=r.get (i:=j) (x:=T ls[j]) (by rw [List.getElem?_map,List.getElem?_eq_getElem hj];rfl)
  obtain ⟨w',e2,q2⟩:=r2.get (i:=j) (x:=T ls[j]) (by rw [List.getElem?_map,List.getElem?_eq_getElem hj];rfl)
  have e:=Gp (A:=A.in1) (s:=s) q1 q2 rfl rfl
  rw [show eqV (T ls[j]) (T ls[j])=true from by show (tx ls[j]==tx ls[j])=true;rw [beq_iff_eq]] at e
  have a1:its.toArray[j]=u':=by
   rw [List.getElem_toArray]
   exact (List.getElem?_eq_some_iff.mp e1).2
  have a2:its2.toArray[j]=w':=by
   rw [List.getElem_toArray]
   exact (List.getElem?_eq_some_iff.mp e2).2
  rw [a1,a2]
  exact e
inductive jC (K:PySem.W.Frag)(H:Hp):List (Key×V)->List (Key×V)->Prop
 | nil:jC K H [] []
 | cons {k:Key} {a b:Addr} {ls:List (List Nat)} {x y:List (Key×V)}:SqL K H a (ls.map T)->SqL K H b (ls.map T)->jC K H x y->jC K H ((k,.ref a)::x) ((k,.ref b)::y)
theorem jC.keys {K:PySem.W.Frag}{H:Hp}{x y:List (Key×V)}(h:jC K H x y):x.map (·.1)=y.map (·.1):=by
 induction h with
 | nil=>rfl
 | cons _ _ _ ih=>rw [List.map_cons,List.map_cons,ih]
theorem Hq {pins:List (Addr×Obj)}{σ:St}{H:Hp}{s:Shared}{A:Around}(I:Inv X pins σ H s)(hu:A.units<cLine){kb:List (Key×Value)}{x y:List (Key×V)}(h:jC X.K H x y) :
  ∀ {vs us:List (Key×Value)},KV x vs->KV y us->(∀ k v,(k,v)∈us->valueAt kb k=some v)->PySem.W.KeqHits A s kb vs true:=by
 induction h with
 | nil=>intro vs us h1 _ _;cases h1;exact .nil
 | cons e1 e2 _ ih =>
  intro vs us h1 h2 hv
  cases h1 with
  | cons ra q1 =>
   cases h2 with
   | cons rb q2 =>
    rename_i va vr vb ur
    obtain ⟨ka,va⟩:=va
    obtain ⟨kb',vb⟩:=vb
    obtain ⟨ra1,ra2⟩:=ra
    obtain ⟨rb1,rb2⟩:=rb
    dsimp only at ra1 ra2 rb1 rb2
    subst ra1
    subst rb1
    cases ra2
    cases rb2
    exact .hit (e:=true) (b:=true) (hv _ _ (List.mem_cons_self ..)) (Bx I hu e1 e2) (ih q1 q2 fun k v hm=>hv k v (List.mem_cons_of_mem _ hm))
theorem Dh (hu:X.A.units+1<cLine):OpR X (compareOp .NotEq) (fun x y H Q=>∃ (p b:Addr) (kx ky:List (Key×V)),x = .ref p∧y = .ref b∧H p=some (.dK kx)∧H b=some (.dK ky)∧jC X.K H kx ky∧(ky.map (·.1)).Nodup∧Q (.bl false) H):=by
 intro pins s σ H x y v u Q I rx ry h
 obtain ⟨p,b,kx,ky,rfl,rfl,g1,g2,al,nd,q⟩:=h
 cases rx
 cases ry
 obtain ⟨_,hd1,vs,rel1,dd1⟩:=nA I.hok g1
 obtain ⟨_,hd2,us,rel2,dd2⟩:=nA I.hok g2
 have hlen:vs.length=us.length:=by
  have:=congrArg List.length al.keys
  rw [List.length_map,List.length_map,rel1.length,rel2.length] at this
  exact this
 rw [rel2.keys] at nd
 refine PySem.W.keq_ne (knd:=bN X.prog X.w) (r:=true) hd1 hd2 dd1 dd2 (Nat.lt_of_succ_lt hu) (fun _=>Hq I hu al rel1 rel2 fun k v hm=>?_) ?_
 ·obtain ⟨i,hi⟩:=List.getElem?_of_mem hm
  exact valueAt_of_get nd hi
 ·rw [hlen,beq_self_eq_true]
  exact ⟨.bl false,H,I,rfl,q⟩
end
section
variable {X:Cx}{N':List Str}{scope:Scope}{x:Str}{px:Pos}{elt iter cd:Expr}{pos:Pos}{te:TE}{tc:TT}{wi:TI}
theorem Ca (S:nP X.N N' X.env.scope scope x)(hc:X.calm=true)(hi:PI X (.Name x px) iter wi)(ht:∀ cl C s H fp,PT (dZ X x N' scope cl C s H fp) cd tc)(he:∀ cl C s H fp,PE (dZ X x N' scope cl C s H fp) elt te)
  (hs:∀ x,foldedSetIterable iter X.env x=pure x:=by intro _;rfl):PE X (.ListComp elt [⟨.Name x px,iter,[cd],0⟩] scope pos) (yE wi tc te) :=
 Ch (at':=fun σ Q=>eQ tc te σ Q) S hc hi (fun _ _ _ _ _=>tT (ht _ _ _ _ _)) he (fun _ _ _ _ h=>h) hs
end
theorem Lq {J:It}{vs:List V}{tc:TT}{te:TE}{σ:St}{H:Hp}{Q:VK}(p:V->Bool)(g:V->List V)(rd:lI J H vs)(hn:vs.length<=sizeLine)
  (ht:∀ x H',x∈vs->aN H H'->∀ N:Bool->Hp->Prop,(∀ H'',aN H' H''->N (p x) H'')->tc (some x::σ) H' N)
  (he:∀ x H',x∈vs->p x=true->aN H H'->∀ N:V->Hp->Prop,(∀ c H'',aN H' H''->H' c=none->H'' c=some (.lst (g x))->N (.ref c) H'')->te (some x::σ) H' N)
  (hq:∀ D bs H',H D=none->aN H H'->H' D=some (.lst (bs.map V.ref))->Dt.R2 (fun v b=>b≠D∧H b=none∧H' b=some (.lst (g v))) (vs.filter p) bs->Q (.ref D) H'):eQ tc te σ Q J H:=by
 intro D hD
 refine ⟨fun i m ys H2=>m=vs.length-i∧i<=vs.length∧aN H H2∧H2 D=some (.lst ys)∧∃ bs:List Addr,ys=bs.map V.ref∧Dt.R2 (fun v b=>b≠D∧H b=none∧H2 b=some (.lst (g v))) ((vs.take i).filter p) bs,⟨vs.length,rfl,Nat.zero_le _,fun b o e=>?_,aC,[],rfl,.nil⟩,?_⟩
 ·rw [aI (aK e hD)]
  exact e
 ·rintro i m ys H2 ⟨rfl,hi,hs,hd,bs,rfl,hb⟩
  by_cases hlt:i<vs.length
  ·have hx:vs[i]?=some vs[i]:=List.getElem?_eq_getElem hlt
   have hbl:bs.length<=i:=by have:=hb.len;have:=iN p vs i;omega
   refine .inr ⟨rd.go i H2 hs hlt,by rw [List.length_map];omega,fun v H'=>p vs[i]=true∧aN H2 H'∧∃ c,v = .ref c∧c≠D∧H c=none∧H' c=some (.lst (g vs[i])),fun v H' ⟨hp,hs',c,ev,hcD,hcn,hc⟩=>⟨hs' D _ hd,vs.length-(i+1),by omega,rfl,hlt,fun b o e=>?kp,aC,bs++[c],?app,?la⟩,
    fun H'=>p vs[i]=false∧aN H2 H',fun H' ⟨hp,hs'⟩=>⟨vs.length-(i+1),by omega,rfl,hlt,fun b o e=>hs' b o (hs b o e),hs' D _ hd,bs,rfl,?skp⟩,fun y H' hy=>?stp⟩
   case app =>
    rw [ev,List.map_append]
    rfl
   case kp =>
    rw [aI (aK e hD)]
    exact hs' b o (hs b o e)
   case la =>
    rw [gL p vs i _ hx,hp]
    refine Dt.R2.snoc (hb.mono fun v b _ ⟨h1,h0,h2⟩=>⟨h1,h0,by rw [aI h1];exact hs' b _ h2⟩) ⟨hcD,hcn,by rw [aI hcD];exact hc⟩
   case skp =>
    rw [gL p vs i _ hx,hp]
    rw [show (if false=true then [vs[i]] else [])=[] from rfl,List.append_nil]
    exact hb.mono fun v b _ ⟨h1,h0,h2⟩=>⟨h1,h0,hs' b _ h2⟩
   case stp =>
    obtain ⟨rfl,e2⟩:=rd.yl i H2 y H' hs hy
    have e4:y=vs[i]:=by rw [hx] at e2;exact (Option.some.inj e2).symm
    subst e4
    refine ht _ _ (List.getElem_mem hlt) hs _ fun H'' h''=>?_
    by_cases hp:p vs[i]=true
    ·rw [if_pos hp]
     refine he _ _ (List.getElem_mem hlt) hp (hs.trans h'') _ fun c H3 h3 hc1 hc2=>⟨hp,h''.trans h3,c,rfl,fun z=>?_,?_,hc2⟩
     ·rw [z,h'' D _ hd] at hc1;cases hc1
     ·cases e:H c with
      | none=>rfl
      | some o=>rw [h'' c o (hs c o e)] at hc1;cases hc1
    ·rw [if_neg hp]
     exact ⟨by simpa using hp,h''⟩
  ·have e:i=vs.length:=by omega
   subst e
   rw [List.take_length] at hb
   exact .inl ⟨rd.st H2 hs,hq D bs H2 hD hs hd hb⟩
end L2
namespace L2
open PySem PyProof.Rows
section
variable {X:Cx}
end
end L2
namespace L2
open PySem PyProof.Rows PySem.Spec
section
variable {X:Cx}
end
end L2
namespace L2
open PySem PyProof.Rows PySem.Spec
section
variable {X:Cx}
end
end L2
namespace L2
open PySem
section
variable {X:Cx}
theorem Ni {st:Stmt}{t t':TS}(h:PS X st t)(hw:∀ (D:kL) (σ:St) (H:Hp),t' D σ H->t D σ H):PS X st t':=fun pins s σ H D I q=>h pins s σ H D I (hw D σ H q)
end
end L2
namespace L2
open PySem PyProof.Rows
section
variable {X:Cx}
end
end L2
namespace L2
open PySem PySem.Spec PyProof.Rows
section
variable {X:Cx}
end
end L2
namespace L2
open PySem PySem.Spec PyProof.Rows
end L2
namespace L2
open PySem PyProof.Rows PySem.Spec
section
variable {X:Cx}
theorem Gm (K:PySem.W.Frag)(hK:X.K=K)(hu:X.A.units<cLine):OpR X (compareOp .NotEq) (fun x y H Q=>∃ (p b:Addr) (ys:List V),x = .ref p∧y = .ref b∧SqL K H p ys∧SqL K H b []∧Q (.bl (!ys.isEmpty)) H):=by
 subst hK
 intro pins s σ H x y v u Q I rx ry h
 obtain ⟨p,b,ys,rfl,rfl,h1,h2,q⟩:=h
 cases rx
 cases ry
 obtain ⟨its,r,pl,_⟩:=I.list h1
 obtain ⟨its2,r2,pl2,_⟩:=I.list h2
 have l1:=r.length
 have l2:=r2.length
 cases ys with
 | nil =>
  have e1:its=[]:=List.length_eq_zero_iff.mp l1.symm
  have e2:its2=[]:=List.length_eq_zero_iff.mp l2.symm
  subst e1 e2
  refine SeqAt.RcNeAt.lists (e:=fun _=>true) pl.isList pl2.isList rfl hu (fun j g1 g2=>absurd g1 (by simp)) _ _ _ _ ?_
  exact ⟨.bl _,H,I,rfl,q⟩
 | cons y ys =>
  refine SeqAt.RcNeAt.lists_lengths pl.isList pl2.isList (by rw [List.size_toArray,List.size_toArray,bne_iff_ne];simp only [List.length_cons,List.length_nil] at l1 l2;omega) hu _ _ _ _ ?_
  exact ⟨.bl _,H,I,rfl,q⟩
end
end L2
namespace K31
open PySem L2
seal L2.PSs L2.PS L2.PE L2.PA L2.PT L2.PW L2.PI L2.PG L2.PGs L2.PO L2.PTy L2.PH L2.OpR L2.eO L2.IxR L2.SlR L2.UnR L2.Qs
def top (i:Nat):Stmt:=PySem.Challenge.pw_onceround_k31_trees_counted_by_trial.main.body.getD i (.Pass ⟨0,0,0,0⟩)
abbrev cV:Stmt:=top 6
abbrev gD:Stmt:=top 7
abbrev fK:Stmt:=top 8
abbrev bG:Stmt:=top 9
abbrev bH:Stmt:=top 10
abbrev cZ:Stmt:=top 11
abbrev dO:Stmt:=top 12
abbrev dD:Stmt:=top 22
abbrev cW:Stmt:=top 23
abbrev gE:Stmt:=top 24
abbrev gT:Stmt:=top 25
abbrev eE:Stmt:=top 29
abbrev fI:Stmt:=Hv (top 30) 0
abbrev fM:Stmt:=top 31
abbrev gR:Stmt:=top 32
abbrev fQ:Stmt:=top 33
abbrev kH:Stmt:=top 34
abbrev cY:Stmt:=top 36
abbrev bZ:Stmt:=top 37
abbrev dQ:Stmt:=top 38
abbrev eG:Stmt:=top 39
abbrev dF:Stmt:=top 41
abbrev dY:Stmt:=top 42
abbrev dW:Stmt:=top 43
abbrev cH:Stmt:=top 44
abbrev dL:Stmt:=top 45
abbrev cF:Stmt:=top 46
abbrev cI:Stmt:=top 47
abbrev eV:Stmt:=top 48
abbrev eB:Stmt:=top 49
abbrev bV:Stmt:=top 50
abbrev fN:Stmt:=top 51
abbrev jD:Stmt:=top 52
theorem mQ:aX ["place", "last", "times"] ["place", "last"] (aE cV):=⟨rfl,rfl,rfl,by decide +kernel,rfl,by decide +kernel,by decide +kernel⟩
theorem cJ:aX ["number", "prime", "last", "rest", "last_times", "times", "quotient", "next_rest", "more_times"] ["number", "prime"] (aE gD):=⟨rfl,rfl,rfl,by decide +kernel,rfl,by decide +kernel,by decide +kernel⟩
theorem oE:aX ["row", "top", "back", "prime", "times"] ["row", "top", "back", "prime"] (aE fK):=⟨rfl,rfl,rfl,by decide +kernel,rfl,by decide +kernel,by decide +kernel⟩
def qB:Scope:={ kind:=PySem.ScopeKind.function,names:=[ (PySem.Str.ofString ".0",PySem.NameKind.local),(PySem.Str.ofString "number",PySem.NameKind.local),(PySem.Str.ofString "above",PySem.NameKind.local),(PySem.Str.ofString "times",PySem.NameKind.free)],isGenerator:=false,isCoroutine:=false,more:=[]:PySem.Scope }
theorem sL:sZ ["row", "top", "back", "prime", "times"] ["number", "above", "row", "top", "back", "prime", "times"] (aE fK) qB "number" "above" := ⟨rfl,by decide +kernel,by decide +kernel,rfl,rfl,by decide +kernel,rfl,rfl,rfl,by decide +kernel,rfl,by decide +kernel,by decide +kernel⟩
theorem cR:aX ["numbers", "place", "number"] ["numbers"] (aE bG):=⟨rfl,rfl,rfl,by decide +kernel,rfl,by decide +kernel,by decide +kernel⟩
theorem bA:aX ["square", "prime", "rows", "rest", "place", "top", "back"] ["square", "prime"] (aE bH):=⟨rfl,rfl,rfl,by decide +kernel,rfl,by decide +kernel,by decide +kernel⟩
def iE:Scope:={ kind:=PySem.ScopeKind.function,names:=[ (PySem.Str.ofString ".0",PySem.NameKind.local),(PySem.Str.ofString "row",PySem.NameKind.local),(PySem.Str.ofString "prime",PySem.NameKind.free)],isGenerator:=false,isCoroutine:=false,more:=[]:PySem.Scope }
theorem iV:cU ["square", "prime", "rows", "rest", "place", "top", "back"] ["row", "square", "prime", "rows", "rest", "place", "top", "back"] (aE bH) iE "row" := ⟨rfl,by decide +kernel,by decide +kernel,rfl,by decide +kernel,rfl,rfl,by decide +kernel,rfl,by decide +kernel,by decide +kernel⟩
def hZ:Scope:={ kind:=PySem.ScopeKind.function,names:=[ (PySem.Str.ofString ".0",PySem.NameKind.local),(PySem.Str.ofString "number",PySem.NameKind.local),(PySem.Str.ofString "prime",PySem.NameKind.free)],isGenerator:=false,isCoroutine:=false,more:=[]:PySem.Scope }
theorem iO:cU ["square", "prime", "rows", "rest", "place", "top", "back"] ["number", "square", "prime", "rows", "rest", "place", "top", "back"] (aE bH) hZ "number" := ⟨rfl,by decide +kernel,by decide +kernel,rfl,by decide +kernel,rfl,rfl,by decide +kernel,rfl,by decide +kernel,by decide +kernel⟩
def iK:Scope:={ kind:=PySem.ScopeKind.function,names:=[ (PySem.Str.ofString ".0",PySem.NameKind.local),(PySem.Str.ofString "row",PySem.NameKind.local),(PySem.Str.ofString "lowered",PySem.NameKind.globalImplicit),(PySem.Str.ofString "back",PySem.NameKind.free),(PySem.Str.ofString "prime",PySem.NameKind.free),(PySem.Str.ofString "top",PySem.NameKind.free)],isGenerator:=false,isCoroutine:=false,more:=[]:PySem.Scope }
theorem iP:cU ["square", "prime", "rows", "rest", "place", "top", "back"] ["row", "square", "prime", "rows", "rest", "place", "top", "back"] (aE bH) iK "row" := ⟨rfl,by decide +kernel,by decide +kernel,rfl,by decide +kernel,rfl,rfl,by decide +kernel,rfl,by decide +kernel,by decide +kernel⟩
theorem eX:aX ["square", "bound", "row"] ["square"] (aE cZ):=⟨rfl,rfl,rfl,by decide +kernel,rfl,by decide +kernel,by decide +kernel⟩
def kR:Scope:={ kind:=PySem.ScopeKind.function,names:=[ (PySem.Str.ofString ".0",PySem.NameKind.local),(PySem.Str.ofString "number",PySem.NameKind.local),(PySem.Str.ofString "abs",PySem.NameKind.globalImplicit)],isGenerator:=false,isCoroutine:=false,more:=[]:PySem.Scope }
theorem mB:cU ["square", "bound", "row"] ["number", "square", "bound", "row"] (aE cZ) kR "number" := ⟨rfl,by decide +kernel,by decide +kernel,rfl,by decide +kernel,rfl,rfl,by decide +kernel,rfl,by decide +kernel,by decide +kernel⟩
theorem bI:aX ["square", "bound", "result", "modulus", "place", "times", "prime", "lacking"] ["square"] (aE dO):=⟨rfl,rfl,rfl,by decide +kernel,rfl,by decide +kernel,by decide +kernel⟩
theorem nF:aX ["kinds"] ["kinds"] (aE dD):=⟨rfl,rfl,rfl,by decide +kernel,rfl,by decide +kernel,by decide +kernel⟩
theorem mJ:aX ["length", "kinds"] ["length", "kinds"] (aE cW):=⟨rfl,rfl,rfl,by decide +kernel,rfl,by decide +kernel,by decide +kernel⟩
theorem xI:aX ["kinds"] ["kinds"] (aE gE):=⟨rfl,rfl,rfl,by decide +kernel,rfl,by decide +kernel,by decide +kernel⟩
theorem lT:aX ["word", "kinds", "known", "sign"] ["word", "kinds"] (aE gT):=⟨rfl,rfl,rfl,by decide +kernel,rfl,by decide +kernel,by decide +kernel⟩
theorem kD:aX ["words", "word"] ["words"] (aE eE):=⟨rfl,rfl,rfl,by decide +kernel,rfl,by decide +kernel,by decide +kernel⟩
theorem vM:aX ["self", "words"] ["self", "words"] (aE fI):=⟨rfl,rfl,rfl,by decide +kernel,rfl,by decide +kernel,by decide +kernel⟩
theorem uL:aX ["word"] ["word"] (aE fM):=⟨rfl,rfl,rfl,by decide +kernel,rfl,by decide +kernel,by decide +kernel⟩
theorem Cr:aX ["word"] ["word"] (aE gR):=⟨rfl,rfl,rfl,by decide +kernel,rfl,by decide +kernel,by decide +kernel⟩
theorem Be:aX ["web"] ["web"] (aE fQ):=⟨rfl,rfl,rfl,by decide +kernel,rfl,by decide +kernel,by decide +kernel⟩
def tI:Scope:={ kind:=PySem.ScopeKind.function,names:=[ (PySem.Str.ofString ".0",PySem.NameKind.local),(PySem.Str.ofString "word",PySem.NameKind.local),(PySem.Str.ofString "begin_of",PySem.NameKind.globalImplicit)],isGenerator:=false,isCoroutine:=false,more:=[]:PySem.Scope }
theorem wB:cU ["web"] ["word", "web"] (aE fQ) tI "word" := ⟨rfl,by decide +kernel,by decide +kernel,rfl,by decide +kernel,rfl,rfl,by decide +kernel,rfl,by decide +kernel,by decide +kernel⟩
def sM:Scope:={ kind:=PySem.ScopeKind.function,names:=[ (PySem.Str.ofString ".0",PySem.NameKind.local),(PySem.Str.ofString "word",PySem.NameKind.local),(PySem.Str.ofString "end_of",PySem.NameKind.globalImplicit)],isGenerator:=false,isCoroutine:=false,more:=[]:PySem.Scope }
theorem vO:cU ["web"] ["word", "web"] (aE fQ) sM "word" := ⟨rfl,by decide +kernel,by decide +kernel,rfl,by decide +kernel,rfl,rfl,by decide +kernel,rfl,by decide +kernel,by decide +kernel⟩
theorem Je:aX ["web", "piece"] ["web", "piece"] (aE kH):=⟨rfl,rfl,rfl,by decide +kernel,rfl,by decide +kernel,by decide +kernel⟩
def xF:Scope:={ kind:=PySem.ScopeKind.function,names:=[ (PySem.Str.ofString ".0",PySem.NameKind.local),(PySem.Str.ofString "word",PySem.NameKind.local),(PySem.Str.ofString "begin_of",PySem.NameKind.globalImplicit),(PySem.Str.ofString "piece",PySem.NameKind.free)],isGenerator:=false,isCoroutine:=false,more:=[]:PySem.Scope }
theorem Br:cU ["web", "piece"] ["word", "web", "piece"] (aE kH) xF "word" := ⟨rfl,by decide +kernel,by decide +kernel,rfl,by decide +kernel,rfl,rfl,by decide +kernel,rfl,by decide +kernel,by decide +kernel⟩
theorem jY:aX ["texts", "text", "words", "ends"] ["texts", "text", "words"] (aE cY):=⟨rfl,rfl,rfl,by decide +kernel,rfl,by decide +kernel,by decide +kernel⟩
def lS:Scope:={ kind:=PySem.ScopeKind.function,names:=[ (PySem.Str.ofString ".0",PySem.NameKind.local),(PySem.Str.ofString "word",PySem.NameKind.local),(PySem.Str.ofString "end_of",PySem.NameKind.globalImplicit)],isGenerator:=false,isCoroutine:=false,more:=[]:PySem.Scope }
theorem nE:cU ["texts", "text", "words", "ends"] ["word", "texts", "text", "words", "ends"] (aE cY) lS "word" := ⟨rfl,by decide +kernel,by decide +kernel,rfl,by decide +kernel,rfl,rfl,by decide +kernel,rfl,by decide +kernel,by decide +kernel⟩
def mL:Scope:={ kind:=PySem.ScopeKind.function,names:=[ (PySem.Str.ofString ".0",PySem.NameKind.local),(PySem.Str.ofString "other",PySem.NameKind.local),(PySem.Str.ofString "len",PySem.NameKind.globalImplicit),(PySem.Str.ofString "ends",PySem.NameKind.free),(PySem.Str.ofString "text",PySem.NameKind.free)],isGenerator:=false,isCoroutine:=false,more:=[]:PySem.Scope }
theorem nO:cU ["texts", "text", "words", "ends"] ["other", "texts", "text", "words", "ends"] (aE cY) mL "other" := ⟨rfl,by decide +kernel,by decide +kernel,rfl,by decide +kernel,rfl,rfl,by decide +kernel,rfl,by decide +kernel,by decide +kernel⟩
theorem gF:aX ["ways", "texts"] ["ways"] (aE bZ):=⟨rfl,rfl,rfl,by decide +kernel,rfl,by decide +kernel,by decide +kernel⟩
def iS:Scope:={ kind:=PySem.ScopeKind.function,names:=[ (PySem.Str.ofString ".0",PySem.NameKind.local),(PySem.Str.ofString "text",PySem.NameKind.local),(PySem.Str.ofString "choice_row",PySem.NameKind.globalImplicit),(PySem.Str.ofString "texts",PySem.NameKind.free),(PySem.Str.ofString "ways",PySem.NameKind.free)],isGenerator:=false,isCoroutine:=false,more:=[]:PySem.Scope }
theorem iX:cU ["ways", "texts"] ["text", "ways", "texts"] (aE bZ) iS "text" := ⟨rfl,by decide +kernel,by decide +kernel,rfl,by decide +kernel,rfl,rfl,by decide +kernel,rfl,by decide +kernel,by decide +kernel⟩
theorem fD:aX ["web", "piece", "every", "ways", "other"] ["web", "piece"] (aE dQ):=⟨rfl,rfl,rfl,by decide +kernel,rfl,by decide +kernel,by decide +kernel⟩
theorem pQ:aX ["web", "piece"] ["web", "piece"] (aE eG):=⟨rfl,rfl,rfl,by decide +kernel,rfl,by decide +kernel,by decide +kernel⟩
theorem nI:aX ["script", "k"] ["script", "k"] (aE dF):=⟨rfl,rfl,rfl,by decide +kernel,rfl,by decide +kernel,by decide +kernel⟩
theorem qA:aX ["found", "due"] ["found", "due"] (aE dY):=⟨rfl,rfl,rfl,by decide +kernel,rfl,by decide +kernel,by decide +kernel⟩
theorem dJ:aX ["cells", "kinds", "first", "words", "here", "cell", "free", "word"] ["cells", "kinds", "first"] (aE dW):=⟨rfl,rfl,rfl,by decide +kernel,rfl,by decide +kernel,by decide +kernel⟩
def nD:Scope:={ kind:=PySem.ScopeKind.function,names:=[ (PySem.Str.ofString ".0",PySem.NameKind.local),(PySem.Str.ofString "sign",PySem.NameKind.local),(PySem.Str.ofString "here",PySem.NameKind.free),(PySem.Str.ofString "words",PySem.NameKind.free)],isGenerator:=false,isCoroutine:=false,more:=[]:PySem.Scope }
theorem oJ:cU ["cells", "kinds", "first", "words", "here", "cell", "free", "word"] ["sign", "cells", "kinds", "first", "words", "here", "cell", "free", "word"] (aE dW) nD "sign" := ⟨rfl,by decide +kernel,by decide +kernel,rfl,by decide +kernel,rfl,rfl,by decide +kernel,rfl,by decide +kernel,by decide +kernel⟩
theorem aW:aX ["script", "at", "most", "length", "kinds", "drawn", "first", "k", "words"] ["script", "at", "most"] (aE cH):=⟨rfl,rfl,rfl,by decide +kernel,rfl,by decide +kernel,by decide +kernel⟩
theorem dP:aX ["kinds", "length", "words", "k", "longer", "word"] ["kinds", "length"] (aE dL):=⟨rfl,rfl,rfl,by decide +kernel,rfl,by decide +kernel,by decide +kernel⟩
def mE:Scope:={ kind:=PySem.ScopeKind.function,names:=[ (PySem.Str.ofString ".0",PySem.NameKind.local),(PySem.Str.ofString "sign",PySem.NameKind.local),(PySem.Str.ofString "word",PySem.NameKind.free)],isGenerator:=false,isCoroutine:=false,more:=[]:PySem.Scope }
theorem nN:cU ["kinds", "length", "words", "k", "longer", "word"] ["sign", "kinds", "length", "words", "k", "longer", "word"] (aE dL) mE "sign" := ⟨rfl,by decide +kernel,by decide +kernel,rfl,by decide +kernel,rfl,rfl,by decide +kernel,rfl,by decide +kernel,by decide +kernel⟩
theorem bC:aX ["cell", "most", "sizes", "kinds", "length", "part", "words", "word"] ["cell", "most"] (aE cF):=⟨rfl,rfl,rfl,by decide +kernel,rfl,by decide +kernel,by decide +kernel⟩
theorem aO:aX ["script", "at", "most", "words", "way", "drawn", "k", "word", "j", "part"] ["script", "at", "most"] (aE cI):=⟨rfl,rfl,rfl,by decide +kernel,rfl,by decide +kernel,by decide +kernel⟩
theorem fX:aX ["words", "piece", "ways", "word", "other"] ["words", "piece"] (aE eV):=⟨rfl,rfl,rfl,by decide +kernel,rfl,by decide +kernel,by decide +kernel⟩
theorem eN:aX ["chosen", "text", "here", "step"] ["chosen"] (aE eB):=⟨rfl,rfl,rfl,by decide +kernel,rfl,by decide +kernel,by decide +kernel⟩
theorem bK:aX ["ways", "found", "text", "more", "chosen", "word", "longer"] ["ways"] (aE bV):=⟨rfl,rfl,rfl,by decide +kernel,rfl,by decide +kernel,by decide +kernel⟩
def eZ:Scope:={ kind:=PySem.ScopeKind.function,names:=[ (PySem.Str.ofString ".0",PySem.NameKind.local),(PySem.Str.ofString "chosen",PySem.NameKind.cell),(PySem.Str.ofString "_law_comes",PySem.NameKind.globalImplicit),(PySem.Str.ofString "sorted",PySem.NameKind.globalImplicit)],isGenerator:=false,isCoroutine:=false,more:=[]:PySem.Scope }
theorem iU:nP ["ways", "found", "text", "more", "chosen", "word", "longer"] ["chosen", "ways", "found", "text", "more", "", "word", "longer"] (aE bV) eZ "chosen" := ⟨rfl,by decide +kernel,by decide +kernel,rfl,by decide +kernel,rfl,rfl,by decide +kernel,rfl,by decide +kernel,by decide +kernel⟩
def hU:Scope:={ kind:=PySem.ScopeKind.function,names:=[ (PySem.Str.ofString ".0",PySem.NameKind.local),(PySem.Str.ofString "text",PySem.NameKind.local),(PySem.Str.ofString "chosen",PySem.NameKind.free)],isGenerator:=false,isCoroutine:=false,more:=[]:PySem.Scope }
theorem iR {env:Env}:cU ["chosen", "ways", "found", "text", "more", "", "word", "longer"] ["text", "chosen", "ways", "found", "0", "more", "", "word", "longer"] (relabel eZ env) hU "text" := ⟨rfl,by decide +kernel,by decide +kernel,rfl,xQ (by decide +kernel) env,rfl,rfl,by decide +kernel,rfl,by decide +kernel,by decide +kernel⟩
theorem gK:aX ["ways", "cell", "made", "text"] ["ways", "cell"] (aE fN):=⟨rfl,rfl,rfl,by decide +kernel,rfl,by decide +kernel,by decide +kernel⟩
theorem hV:aX ["script", "words", "web", "every", "k", "ways", "due", "narrow", "handed"] ["script"] (aE jD):=⟨rfl,rfl,rfl,by decide +kernel,rfl,by decide +kernel,by decide +kernel⟩
def Bj:Scope:={ kind:=PySem.ScopeKind.function,names:=[(PySem.Str.ofString ".0",PySem.NameKind.local),(PySem.Str.ofString "word",PySem.NameKind.local)],isGenerator:=false,isCoroutine:=false,more:=[]:PySem.Scope }
theorem Df:cU ["script", "words", "web", "every", "k", "ways", "due", "narrow", "handed"] ["word", "script", "words", "web", "every", "k", "ways", "due", "narrow", "handed"] (aE jD) Bj "word" := ⟨rfl,by decide +kernel,by decide +kernel,rfl,by decide +kernel,rfl,rfl,by decide +kernel,rfl,by decide +kernel,by decide +kernel⟩
def Ci:Scope:={ kind:=PySem.ScopeKind.function,names:=[(PySem.Str.ofString ".0",PySem.NameKind.local),(PySem.Str.ofString "word",PySem.NameKind.local)],isGenerator:=false,isCoroutine:=false,more:=[]:PySem.Scope }
theorem Ec:cU ["script", "words", "web", "every", "k", "ways", "due", "narrow", "handed"] ["word", "script", "words", "web", "every", "k", "ways", "due", "narrow", "handed"] (aE jD) Ci "word" := ⟨rfl,by decide +kernel,by decide +kernel,rfl,by decide +kernel,rfl,rfl,by decide +kernel,rfl,by decide +kernel,by decide +kernel⟩
set_option genInjectivity false in
structure Adr where
 BadKinds:Addr
 BadWord:Addr
 TooMany:Addr
 NoSuch:Addr
 Web:Addr
 KNOWN_TIMES:Addr
 u_LETTERS:Value
 u_LONGEST:Value
 u_MOST_OF_A_WEB:Value
 u_LONGEST_OF_A_WEB:Value
 u_FIRST_PRIME:Value
 u_STEP:Value
set_option genInjectivity false in
structure Txt (K:PySem.W.Frag)(mg:Str->Option Value)(ad:Adr):Prop where
 b_abs:mg "abs" = none
 b_bool:mg "bool" = none
 b_dict:mg "dict" = none
 b_enumerate:mg "enumerate" = none
 b_int:mg "int" = none
 b_isinstance:mg "isinstance" = none
 b_len:mg "len" = none
 b_list:mg "list" = none
 b_range:mg "range" = none
 b_set:mg "set" = none
 b_sorted:mg "sorted" = none
 b_sum:mg "sum" = none
 b_tuple:mg "tuple" = none
 b_zip:mg "zip" = none
 m_BadKinds:mg "BadKinds" = some (.ref ad.BadKinds)
 m_BadWord:mg "BadWord" = some (.ref ad.BadWord)
 m_TooMany:mg "TooMany" = some (.ref ad.TooMany)
 m_NoSuch:mg "NoSuch" = some (.ref ad.NoSuch)
 m_Web:mg "Web" = some (.ref ad.Web)
 m_KNOWN_TIMES:mg "KNOWN_TIMES" = some (.ref ad.KNOWN_TIMES)
 x_BadKinds:Exc K mg "BadKinds" ad.BadKinds
 x_BadWord:Exc K mg "BadWord" ad.BadWord
 x_TooMany:Exc K mg "TooMany" ad.TooMany
 x_NoSuch:Exc K mg "NoSuch" ad.NoSuch
 g_LETTERS:mg "LETTERS" = some ad.u_LETTERS
 r_LETTERS:bJ (T [97,98,99,100,101,102]) ad.u_LETTERS
 g_LONGEST:mg "LONGEST" = some ad.u_LONGEST
 r_LONGEST:bJ (.int 24) ad.u_LONGEST
 g_MOST_OF_A_WEB:mg "MOST_OF_A_WEB" = some ad.u_MOST_OF_A_WEB
 r_MOST_OF_A_WEB:bJ (.int 64) ad.u_MOST_OF_A_WEB
 g_LONGEST_OF_A_WEB:mg "LONGEST_OF_A_WEB" = some ad.u_LONGEST_OF_A_WEB
 r_LONGEST_OF_A_WEB:bJ (.int 8) ad.u_LONGEST_OF_A_WEB
 g_FIRST_PRIME:mg "FIRST_PRIME" = some ad.u_FIRST_PRIME
 r_FIRST_PRIME:bJ (.int 2305843009213693951) ad.u_FIRST_PRIME
 g_STEP:mg "STEP" = some ad.u_STEP
 r_STEP:bJ (.int 6277101735386680763835789423207666416102355444464034512896) ad.u_STEP
 kt:tupIs K ad.KNOWN_TIMES [133,211,598,652,721,850,1282,1417,1582,1681,1726,1837,1885,2017,2377,2383,2452,2476,2530,2611,2662,2698,2773,2878,2917,2980,2998,3082,3238,3250,3343,3421,3427,3670,3817,4162,4252,4447,4468,4621,4630,4747,4867,4891,4915,5128,5143,5236,5401,5587,5650,5803,5833,5923,5986,6202,6235,6286,6496,6526,6736,7093,7561,7696,7831,7855,7882,7927,8143,8248]=true
 cl_Web:Cls K ad.Web
 na_Web_words:jJ K ad.Web "words"
 na_Web_length:jJ K ad.Web "length"
theorem eK {CX:CXT}{P:Program}{w:World}{K:PySem.W.Frag}{mg:Str->Option Value}{base:Heap}{N:List Str}{q:Str}{sc:Scope}{f:Addr}{cdv:Value}{A:Around}{outer:List Env}{s:Shared}{H:Hp}{E:XK}:(nL CX P w K mg base N q sc f cdv A outer s H E).nox.K=K:=rfl
section
variable {P:Program}{w:World}{K:PySem.W.Frag}{mg:Str->Option Value}{base:Heap}{ad:Adr}
theorem Py {m:Nat}(h:m<6):([97,98,99,100,101,102]:List Nat)[m]?=some (97+m):=by
 have key:∀ m:Nat,m<6->([97,98,99,100,101,102]:List Nat)[m]?=some (97+m):=by decide
 exact key m h
theorem zC {k c:Nat}(hk:k<=6):c∈([97,98,99,100,101,102]:List Nat).take k↔97<=c∧c<97+k:=by
 have key:∀ k:Nat,k<7->([97,98,99,100,101,102]:List Nat).take k=(List.range k).map (97 + ·):=by decide
 rw [key k (Nat.lt_succ_of_le hk),List.mem_map]
 exact ⟨fun ⟨i,h,e⟩=>e▸⟨Nat.le_add_right _ _,Nat.add_lt_add_left (List.mem_range.mp h) _⟩,fun ⟨h1,h2⟩=>⟨c-97,List.mem_range.mpr (Nat.sub_lt_left_of_lt_add h1 h2),Nat.add_sub_cancel' h1⟩⟩
def lR (ad:Adr):Sp:=fun vs H Q E=>∃ k:Int,vs=[.int k]∧((1<=k∧k<=6)->Q .non H)∧(¬ (1<=k∧k<=6)->E (.ref ad.BadKinds) none H)
theorem nH {f:Addr}{fd:FuncData}(F:Fun K "looked_kinds" "looked_kinds" dD f fd)(tt:Txt K mg ad):cT P w K mg base (CX1 P w) 1 f fd ["kinds"] (lR ad):=by
 refine F.okX nF (fun vs H Q E h=>?_) (fun cdv A outer s H vs Q E hr h=>?_)
 ·obtain ⟨k,rfl,_⟩:=h
  rfl
 ·obtain ⟨k,rfl,q,x⟩:=h
  have hs:sizeLine=16777216:=sizeLine_eq
  refine ⟨_,(aF (cL (PW.pt (Ad (aQ uR (pv 0) aG (bF _)) (tH (aQ lJ (pv 0) (aM dU (by rfl) tt.b_len PySem.boot_len (aA (eW (by rfl) tt.g_LETTERS tt.r_LETTERS) aD)) (bF _))))) (aF (fC (E:=fun cls H'=>E cls none H') tt.x_BadKinds rfl (fun _ _ _ _ _ _ _ I hx q=>iB I hx q) (aA (cS [107,105,110,100,115,32,97,114,101,32,97,32,119,104,111,108,101,32,110,117,109,98,101,114,32,102,114,111,109,32,49,32,116,111,32,54] (by decide +kernel)) aD))) bD)),?_⟩
  (try rw [eK]);(try rw [cxK1])
  refine ⟨_,rfl,_,_,rfl,rfl,_,rfl,?_⟩
  refine fL (fun h0=>Cm ?_) (fun h0=>?_)
  ·have h1:k<1:=of_decide_eq_true h0
   exact ⟨(by show 1<=sizeLine;omega),x fun z=>by omega⟩
  ·have h1:¬ k<1:=fun z=>h0 (decide_eq_true z)
   refine ⟨_,rfl,_,rfl,(by show 6<=sizeLine;omega),_,_,rfl,rfl,_,rfl,?_⟩
   refine fL (fun h2=>?_) (fun h2=>?_)
   ·have h3:(6:Int)<k:=of_decide_eq_true h2
    exact ⟨(by show 1<=sizeLine;omega),x fun z=>by omega⟩
   ·have h3:¬ (6:Int)<k:=fun z=>h2 (decide_eq_true z)
    exact q ⟨by omega,by omega⟩
def wP (ad:Adr):Sp:=fun vs H Q E=>∃ n k:Int,vs=[.int n,.int k]∧((1<=k∧k<=6)->(1<=n∧n<=24)->Q .non H)∧(¬ (1<=k∧k<=6)->E (.ref ad.BadKinds) none H)∧((1<=k∧k<=6)->¬ (1<=n∧n<=24)->E (.ref ad.BadWord) none H)
theorem mG {f:Addr}{fd:FuncData}(F:Fun K "looked_length" "looked_length" cW f fd)(tt:Txt K mg ad)(C_looked_kinds:Cal P w K mg base (CX1 P w) "looked_kinds" 1 ["kinds"] (lR ad)) :
  cT P w K mg base (CX1 P w) 2 f fd ["length", "kinds"] (wP ad):=by
 refine F.okX mJ (fun vs H Q E h=>?_) (fun cdv A outer s H vs Q E hr h=>?_)
 ·obtain ⟨n,k,rfl,_⟩:=h
  rfl
 ·obtain ⟨n,k,rfl,q,x1,x2⟩:=h
  have hs:sizeLine=16777216:=sizeLine_eq
  refine ⟨_,(aB (fO (aU C_looked_kinds hr oT (aA (pv 1) aD)))
   (aF (cL (PW.pt (Ad (aQ uR (pv 0) aG (bF _)) (tH (aQ lJ (pv 0) (eW (by rfl) tt.g_LONGEST tt.r_LONGEST) (bF _))))) (aF (fC (E:=fun cls H'=>E cls none H') tt.x_BadWord rfl (fun _ _ _ _ _ _ _ I hx q=>iB I hx q) (aA (cS [97,32,119,111,114,100,32,104,97,115,32,49,32,116,111,32,50,52,32,108,101,116,116,101,114,115] (by decide +kernel)) aD))) bD))),?_⟩
  (try rw [eK]);(try rw [cxK1])
  refine ⟨_,rfl,k,rfl,fun hk=>?_,x1⟩
  refine ⟨_,rfl,_,_,rfl,rfl,_,rfl,?_⟩
  refine fL (fun h0=>Cm ?_) (fun h0=>?_)
  ·have h1:n<1:=of_decide_eq_true h0
   exact ⟨(by show 1<=sizeLine;omega),x2 hk fun z=>by omega⟩
  ·have h1:¬ n<1:=fun z=>h0 (decide_eq_true z)
   refine ⟨_,rfl,_,_,rfl,rfl,_,rfl,?_⟩
   refine fL (fun h2=>?_) (fun h2=>?_)
   ·have h3:(24:Int)<n:=of_decide_eq_true h2
    exact ⟨(by show 1<=sizeLine;omega),x2 hk fun z=>by omega⟩
   ·have h3:¬ (24:Int)<n:=fun z=>h2 (decide_eq_true z)
    exact q hk ⟨by omega,by omega⟩
def kK (ad:Adr):Sp:=fun vs H Q E=>∃ k:Int,vs=[.int k]∧(∀ kn:Nat,k=(kn:Nat)->(1<=kn∧kn<=6)->Q (T (([97,98,99,100,101,102]:List Nat).take kn)) H)∧(¬ (1<=k∧k<=6)->E (.ref ad.BadKinds) none H)
theorem yF {f:Addr}{fd:FuncData}(F:Fun K "letters" "letters" gE f fd)(tt:Txt K mg ad)(C_looked_kinds:Cal P w K mg base (CX1 P w) "looked_kinds" 1 ["kinds"] (lR ad)):cT P w K mg base (CX1 P w) 2 f fd ["kinds"] (kK ad):=by
 refine F.okX xI (fun vs H Q E h=>?_) (fun cdv A outer s H vs Q E hr h=>?_)
 ·obtain ⟨k,rfl,_⟩:=h
  rfl
 ·obtain ⟨k,rfl,q,x⟩:=h
  have hs:sizeLine=16777216:=sizeLine_eq
  refine ⟨_,(aB (fO (aU C_looked_kinds hr oT (aA (pv 0) aD)))
   (aF (bL (bE kJ (eW (by rfl) tt.g_LETTERS tt.r_LETTERS) bT (bQ (pv 0)))))),?_⟩
  (try rw [eK]);(try rw [cxK1])
  refine ⟨_,rfl,k,rfl,fun hk=>?_,x⟩
  obtain ⟨kn,rfl⟩:∃ kn:Nat,k=(kn:Nat):=⟨k.toNat,by omega⟩
  refine ⟨_,rfl,_,rfl,_,rfl,(by show 6<=sizeLine;omega),?_⟩
  rw [Hc (by show kn<=6;omega)]
  exact q kn rfl ⟨by omega,by omega⟩
def rZ (w:List Nat)(kn:Nat):Prop:=(1<=w.length∧w.length<=24)∧∀ c∈w,97<=c∧c<97+kn
def mP (ad:Adr):Sp:=fun vs H Q E=>∃ (w:List Nat) (k:Int),vs=[T w,.int k]∧w.length<=100000∧(¬ (1<=k∧k<=6)->E (.ref ad.BadKinds) none H) ∧
 ∀ kn:Nat,k=(kn:Nat)->(1<=kn∧kn<=6)->(rZ w kn->Q .non H)∧(¬ rZ w kn->E (.ref ad.BadWord) none H)
theorem Ak {f:Addr}{fd:FuncData}(F:Fun K "looked" "looked" gT f fd)(tt:Txt K mg ad)(C_looked_length:Cal P w K mg base (CX1 P w) "looked_length" 2 ["length", "kinds"] (wP ad))
  (C_letters:Cal P w K mg base (CX1 P w) "letters" 2 ["kinds"] (kK ad)):cT P w K mg base (CX1 P w) 3 f fd ["word", "kinds"] (mP ad):=by
 refine F.okX lT (fun vs H Q E h=>?_) (fun cdv A outer s H vs Q E hr h=>?_)
 ·obtain ⟨w,k,rfl,_⟩:=h
  rfl
 ·obtain ⟨w,k,rfl,hw,x1,q⟩:=h
  have hs:sizeLine=16777216:=sizeLine_eq
  refine ⟨_,(aB (fO (aU C_looked_length hr oT (aA (aM dU (by rfl) tt.b_len PySem.boot_len (aA (pv 0) aD)) (aA (pv 1) aD))))
   (aB (aJ (i:=2) lT.nd rfl (Or.inl rfl) (aU C_letters hr oT (aA (pv 1) aD)))
   (aF (dA PassesOwn.leaving rfl (yI (pv 0)) (bS (i:=3) lT.nd rfl (Or.inl rfl)) (aF (cL (aQ vG (pv 3) (pv 2) (by with_unfolding_all rfl)) (aF (fC (E:=fun cls H'=>E cls none H') tt.x_BadWord rfl (fun _ _ _ _ _ _ _ I hx q=>iB I hx q) (aA (cS [97,32,119,111,114,100,32,104,97,115,32,108,101,116,116,101,114,115,32,111,102,32,105,116,115,32,107,105,110,100,115,32,97,108,111,110,101] (by decide +kernel)) aD))) bD)))))),?_⟩
  (try rw [eK]);(try rw [cxK1])
  refine ⟨_,rfl,_,rfl,(by omega),_,rfl,_,k,rfl,fun hk hn=>?_,x1,fun hk hn=>?_⟩
  rotate_left
  ·obtain ⟨kn,rfl⟩:∃ kn:Nat,k=(kn:Nat):=⟨k.toNat,by omega⟩
   exact (q kn rfl ⟨by omega,by omega⟩).2 fun z=>hn ⟨by have:=z.1;omega,by have:=z.1;omega⟩
  obtain ⟨kn,rfl⟩:∃ kn:Nat,k=(kn:Nat):=⟨k.toNat,by omega⟩
  obtain ⟨q1,q2⟩:=q kn rfl ⟨by omega,by omega⟩
  refine ⟨_,rfl,_,rfl,fun kn' ek hk'=>?_,fun z=>absurd hk z⟩
  obtain rfl:kn=kn':=by omega
  refine ⟨_,rfl,_,rfl,?_⟩
  refine Gb (l:=w) (fun i σ H2=>H=H2∧(∀ c∈w.take i,97<=c∧c<97+kn)∧∃ v,σ=[some (T w),some (.int (kn:Nat)),some (T (([97,98,99,100,101,102]:List Nat).take kn)),v]) ⟨rfl,fun c hc=>(by simp at hc),none,rfl⟩ ?_ ?_
  ·rintro i c σ H2 hi ⟨rfl,hall,v,rfl⟩
   refine ⟨_,rfl,_,rfl,_,rfl,_,rfl,_,rfl,?_⟩
   refine fL (fun h0=>?_) (fun h0=>?_)
   ·have h1:¬ c∈([97,98,99,100,101,102]:List Nat).take kn:=fun z=>by
     rw [decide_eq_true z] at h0
     cases h0
    refine ⟨(by show 1<=sizeLine;omega),q2 fun z=>h1 ?_⟩
    exact (zC (by omega)).mpr (z.2 c (List.mem_of_getElem? hi))
   ·have h1:c∈([97,98,99,100,101,102]:List Nat).take kn:=by
     apply Classical.byContradiction
     intro z
     rw [decide_eq_false z] at h0
     exact h0 rfl
    refine ⟨rfl,fun d hd=>?_,_,rfl⟩
    have hil:=(List.getElem?_eq_some_iff.mp hi).1
    rw [List.take_add_one,hi] at hd
    rcases List.mem_append.mp hd with z | z
    ·exact hall d z
    ·have:d=c:=by simpa using z
     subst this
     exact (zC (by omega)).mp h1
  ·rintro σ H2 ⟨rfl,hall,v,rfl⟩
   rw [List.take_length] at hall
   exact q1 ⟨⟨by omega,by omega⟩,hall⟩
theorem Gj {ls:List (List Nat)}(h:ls.Nodup):(gQ ls).length=ls.length:=((List.perm_ext_iff_of_nodup (oP ls) h).mpr fun x=>gX ls x).length_eq
theorem Lw {H:Hp}{p x C dx:Addr}{fs:List (Str×V)}{xs:List V}{o:HO}(h:SqL K H p xs)(hx:H x=some (.ins C dx fs)):SqL K (upd H x o) p xs:=by
 rcases h with (h | ⟨q,h⟩) | h
 ·exact .inl (.inl (by rw [aI (fun z=>by subst z;rw [hx] at h;cases h)];exact h))
 ·exact .inl (.inr ⟨q,by rw [aI (fun z=>by subst z;rw [hx] at h;cases h)];exact h⟩)
 ·exact .inr h
def kB (ls:List (List Nat))(n:Nat):Prop:=ls≠[]∧ls.length<=64∧(1<=n∧n<=8)∧(∀ x∈ls,x.length=n∧∀ c∈x,97<=c∧c<103)∧ls.Nodup
def xN (K:PySem.W.Frag):Sp:=fun vs H Q _=>∃ (p:Addr) (ls:List (List Nat)) (n:Nat),vs=[.ref p]∧SqL K H p (ls.map T)∧kB ls n∧∀ H',aN H H'->Q .non H'
theorem pR {f:Addr}{fd:FuncData}(F:Fun K "looked_web" "looked_web" eE f fd)(tt:Txt K mg ad)(C_looked:Cal P w K mg base (CX1 P w) "looked" 3 ["word", "kinds"] (mP ad)) :
  cT P w K mg base (CX1 P w) 4 f fd ["words"] (xN K):=by
 refine F.okX kD (fun vs H Q E h=>?_) (fun cdv A outer s H vs Q E hr h=>?_)
 ·obtain ⟨p,ls,n,rfl,_⟩:=h
  rfl
 ·obtain ⟨p,ls,n,rfl,hS,⟨hne,h64,hn,hx,hnd⟩,q⟩:=h
  have hs:sizeLine=16777216:=sizeLine_eq
  have hl0:0<ls.length:=List.length_pos_iff.mpr hne
  obtain ⟨x0,hx0⟩:∃ x0,ls[0]?=some x0:=⟨_,List.getElem?_eq_getElem hl0⟩
  have hx0l:=(hx x0 (List.mem_of_getElem? hx0)).1
  refine ⟨_,(aB (cL (aQ lJ (aM aP (by rfl) tt.b_len PySem.boot_len (aA (pv 0) aD)) (eW (by rfl) tt.g_MOST_OF_A_WEB tt.r_MOST_OF_A_WEB) (bF _)) (aF (fC (E:=fun cls H'=>E cls none H') tt.x_TooMany rfl (fun _ _ _ _ _ _ _ I hx q=>iB I hx q) (aA (cS [97,32,119,101,98,32,104,97,115,32,97,116,32,109,111,115,116,32,54,52,32,119,111,114,100,115] (by decide +kernel)) aD))) bD)
   (aB (cL (aQ eI (aM aP (by rfl) tt.b_len PySem.boot_len (aA (pv 0) aD)) aG (bF _)) (aF (fC (E:=fun cls H'=>E cls none H') tt.x_BadWord rfl (fun _ _ _ _ _ _ _ I hx q=>iB I hx q) (aA (cS [97,32,119,101,98,32,104,97,115,32,97,116,32,108,101,97,115,116,32,111,110,101,32,119,111,114,100] (by decide +kernel)) aD))) bD)
   (aB (dA PassesOwn.leaving rfl (cD (pv 0)) (bS (i:=1) kD.nd rfl (Or.inl rfl)) (aB (fO (aU C_looked hr oT (aA (pv 1) (aA (aM dU (by rfl) tt.b_len PySem.boot_len (aA (eW (by rfl) tt.g_LETTERS tt.r_LETTERS) aD)) aD))))
   (aB (cL (aQ lJ (aM dU (by rfl) tt.b_len PySem.boot_len (aA (pv 1) aD)) (eW (by rfl) tt.g_LONGEST_OF_A_WEB tt.r_LONGEST_OF_A_WEB) (bF _)) (aF (fC (E:=fun cls H'=>E cls none H') tt.x_BadWord rfl (fun _ _ _ _ _ _ _ I hx q=>iB I hx q) (aA (cS [97,32,119,111,114,100,32,111,102,32,97,32,119,101,98,32,104,97,115,32,97,116,32,109,111,115,116,32,56,32,108,101,116,116,101,114,115] (by decide +kernel)) aD))) bD)
   (aF (cL (aQ nY (aM dU (by rfl) tt.b_len PySem.boot_len (aA (pv 1) aD)) (aM dU (by rfl) tt.b_len PySem.boot_len (aA (eS cX (pv 0) aG (fun _ _=>rfl)) aD)) (bF _)) (aF (fC (E:=fun cls H'=>E cls none H') tt.x_BadWord rfl (fun _ _ _ _ _ _ _ I hx q=>iB I hx q) (aA (cS [116,104,101,32,119,111,114,100,115,32,111,102,32,97,32,119,101,98,32,104,97,118,101,32,111,110,101,32,108,101,110,103,116,104] (by decide +kernel)) aD))) bD)))))
   (aF (cL (aQ nY (aM Al (by rfl) tt.b_len PySem.boot_len (aA (eF (Bu rfl) (by rfl) tt.b_set (by decide +kernel) (aA (pv 0) aD)) aD)) (aM aP (by rfl) tt.b_len PySem.boot_len (aA (pv 0) aD)) (bF _)) (aF (fC (E:=fun cls H'=>E cls none H') tt.x_BadWord rfl (fun _ _ _ _ _ _ _ I hx q=>iB I hx q) (aA (cS [97,32,119,111,114,100,32,115,116,97,110,100,115,32,105,110,32,97,32,119,101,98,32,111,110,99,101] (by decide +kernel)) aD))) bD))))),?_⟩
  (try rw [eK]);(try rw [cxK1])
  refine ⟨_,rfl,p,_,rfl,.inl hS,_,_,rfl,rfl,_,rfl,?_⟩
  rw [List.length_map]
  refine fL (fun h0=>absurd (of_decide_eq_true h0) (by omega)) (fun _=>?_)
  refine ⟨_,rfl,p,_,rfl,.inl hS,_,rfl,_,rfl,_,rfl,?_⟩
  rw [List.length_map]
  refine fL (fun h0=>absurd (of_decide_eq_true h0) (by omega)) (fun _=>?_)
  refine ⟨_,rfl,p,rfl,⟨_,hS⟩,?_⟩
  refine dS (K:=K) (a:=p) (xs:=ls.map T) (fun i σ H2=>H2=H∧∃ v,σ=[some (.ref p),v]) ⟨rfl,none,rfl⟩ (fun i σ H2 _ h=>by rw [h.1];exact hS) ?_ ?_
  ·rintro i y σ H2 hi ⟨rfl,v,rfl⟩
   obtain ⟨x,hxi,rfl⟩:∃ x,ls[i]?=some x∧y=T x:=by
    rw [List.getElem?_map] at hi
    obtain ⟨x,h1,h2⟩:=Option.map_eq_some_iff.mp hi
    exact ⟨x,h1,h2.symm⟩
   obtain ⟨hxl,hxc⟩:=hx x (List.mem_of_getElem? hxi)
   have hg:∀ kn:Nat,(6:Int)=(kn:Nat)->rZ x kn:=fun kn e=>⟨⟨by omega,by omega⟩,fun c hc=>by have:=hxc c hc;omega⟩
   refine ⟨_,rfl,_,rfl,(by show 6<=sizeLine;omega),x,6,rfl,(by omega),fun z=>absurd ⟨by decide,by decide⟩ z,fun kn ek hk=>⟨fun _=>?_,fun z=>absurd (hg kn ek) z⟩⟩
   refine ⟨_,rfl,_,rfl,(by omega),_,_,rfl,rfl,_,rfl,?_⟩
   refine fL (fun h0=>absurd (of_decide_eq_true h0) (by omega)) (fun _=>?_)
   refine ⟨_,rfl,_,rfl,(by omega),_,rfl,p,_,_,_,rfl,rfl,hS,dC (j:=0) (by rw [List.getElem?_map,hx0];rfl),_,rfl,(by omega),_,rfl,_,rfl,_,rfl,?_⟩
   refine Jx (by rw [hxl,hx0l]) ?_
   exact ⟨rfl,_,rfl⟩
  ·rintro σ H2 ⟨rfl,v,rfl⟩
   refine ⟨_,rfl,p,ls,rfl,hS,(by omega),fun D hD=>?_⟩
   have sD:aN H2 (upd H2 D (Dr P w D (gQ ls))):=fun b o e=>by rw [aI (aK e hD)];exact e
   refine ⟨D,_,rfl,aC,_,rfl,p,_,rfl,.inl (sD.seq hS),_,rfl,_,rfl,_,rfl,?_⟩
   refine Jx (by rw [List.length_map,Gj hnd]) ?_
   exact q _ sD
def Jg (tp:Addr)(n:Int):List (Str×V):=iM "length" (.int n) (iM "words" (.ref tp) [])
theorem yD (tp:Addr)(n:Int):(Jg tp n).lookup ("words" : Str)=some (.ref tp):=by
 unfold Jg
 rw [gJ,if_neg (by decide +kernel),gJ,if_pos rfl]
def wT (K:PySem.W.Frag)(C:Addr):Sp:=fun vs H Q _=>∃ (x dx p:Addr) (ls:List (List Nat)) (n:Nat),vs=[.ref x,.ref p]∧H x=some (.ins C dx [])∧SqL K H p (ls.map T)∧kB ls n ∧
 ∀ (tp:Addr) (ms:List (List Nat)) (H':Hp),ms.Perm ls->ms.Pairwise (fun a b=>¬ b<a)->(∀ b o,H b=some o->b≠x->H' b=some o)->H' x=some (.ins C dx (Jg tp (n:Nat)))->H' tp=some (.tup (ms.map T))->Q .non H'
theorem uW {f:Addr}{fd:FuncData}(F:Fun K "__init__" "Web.__init__" fI f fd)(tt:Txt K mg ad)(C_looked_web:Cal P w K mg base (CX1 P w) "looked_web" 4 ["words"] (xN K)) :
  cT P w K mg base (CX1 P w) 5 f fd ["self", "words"] (wT K ad.Web):=by
 refine F.okX vM (fun vs H Q E h=>?_) (fun cdv A outer s H vs Q E hr h=>?_)
 ·obtain ⟨x,dx,p,ls,n,rfl,_⟩:=h
  rfl
 ·obtain ⟨x,dx,p,ls,n,rfl,hx,hS,hok,q⟩:=h
  have hs:sizeLine=16777216:=sizeLine_eq
  obtain ⟨hne,h64,hn,hxs,hnd⟩:=id hok
  have hl0:0<ls.length:=List.length_pos_iff.mpr hne
  obtain ⟨x0,hx0⟩:∃ x0,ls[0]?=some x0:=⟨_,List.getElem?_eq_getElem hl0⟩
  have hx0l:=(hxs x0 (List.mem_of_getElem? hx0)).1
  refine ⟨_,(aB (fO (aU C_looked_web hr oT (aA (pv 1) aD)))
   (aB (Ej (pv 0) (eF pU (by rfl) tt.b_tuple (by decide +kernel) (aA (aM kS (by rfl) tt.b_sorted PyProof.Rows.boot_sorted (aA (pv 1) aD)) aD)) rfl)
   (aF (Ej (pv 0) (aM dU (by rfl) tt.b_len PySem.boot_len (aA (eS cX (pv 1) aG (fun _ _=>rfl)) aD)) rfl)))),?_⟩
  (try rw [eK]);(try rw [cxK1])
  refine ⟨_,rfl,p,ls,n,rfl,hS,hok,fun H1 s1=>?_⟩
  refine ⟨_,rfl,p,ls,rfl,s1.seq hS,fun ms D hD hperm hpw=>?_⟩
  have s2:aN H1 (upd H1 D (.lst (ms.map T))):=fun b o e=>by rw [aI (aK e hD)];exact e
  refine ⟨D,_,rfl,.inl ⟨SqL.of aC,fun tp htp=>?_⟩⟩
  have s3:aN (upd H1 D (.lst (ms.map T))) (upd (upd H1 D (.lst (ms.map T))) tp (.tup (ms.map T))):=fun b o e=>by rw [aI (aK e htp)];exact e
  generalize hH3:upd (upd H1 D (.lst (ms.map T))) tp (.tup (ms.map T))=H3 at s3
  have htp3:H3 tp=some (.tup (ms.map T)):=by rw [<- hH3];exact aC
  have s13:aN H H3:=s1.trans (s2.trans s3)
  have hx3:=s13 x _ hx
  have hxt:tp≠x:=fun z=>by subst z;rw [htp3] at hx3;cases hx3
  refine ⟨_,rfl,x,ad.Web,dx,[],rfl,hx3,tt.cl_Web,tt.na_Web_words,(by show 0<1000;decide),?_⟩
  have hS4:SqL K (upd H3 x (.ins ad.Web dx (iM "words" (.ref tp) []))) p (ls.map T):=Lw (s13.seq hS) hx3
  refine ⟨_,rfl,p,_,_,_,rfl,rfl,hS4,dC (j:=0) (by rw [List.getElem?_map,hx0];rfl),_,rfl,(by omega),_,rfl,x,ad.Web,dx,_,rfl,aC,tt.cl_Web,tt.na_Web_length,(by show 1<1000;decide),?_⟩
  refine q tp ms _ hperm hpw (fun b o e hb=>?_) ?_ ?_
  ·rw [aI hb,aI hb]
   exact s13 b o e
  ·rw [aC,hx0l]
   rfl
  ·rw [aI hxt,aI hxt]
   exact htp3
def mW (C:Addr)(H:Hp)(x tp:Addr)(n:Nat)(ms:List (List Nat)):Prop:=(∃ dx,H x=some (.ins C dx (Jg tp (n:Nat))))∧H tp=some (.tup (ms.map T))
theorem mW.on {C:Addr}{H H':Hp}{x tp:Addr}{n:Nat}{ms:List (List Nat)}(h:mW C H x tp n ms)(s:aN H H'):mW C H' x tp n ms:=let ⟨⟨dx,e⟩,t⟩:=h;⟨⟨dx,s _ _ e⟩,s _ _ t⟩
def nU:Sp:=fun vs H Q _=>∃ t:List Nat,vs=[T t]∧(1<=t.length∧t.length<=1000)∧Q (T (t.take (t.length-1))) H
theorem mF {t:List Nat}(h:1<=t.length):gG t none (some (-1))=t.take (t.length-1):=by
 unfold gG
 rw [HT.fA,List.drop_zero,Nat.sub_zero]
 show t.take (if (-1:Int)<0 then ((-1:Int)+(t.length:Int)).toNat else min (-1:Int).toNat t.length)=_
 rw [if_pos (by decide),show ((-1:Int)+(t.length:Int)).toNat=t.length-1 by omega]
theorem vL {f:Addr}{fd:FuncData}(F:Fun K "begin_of" "begin_of" fM f fd)(tt:Txt K mg ad):cT P w K mg base (CX1 P w) 1 f fd ["word"] nU:=by
 refine F.okN uL (fun vs H Q E h=>?_) (fun cdv A outer s H vs Q E hr h=>?_)
 ·obtain ⟨t,rfl,_⟩:=h
  rfl
 ·obtain ⟨t,rfl,hl,q⟩:=h
  have hs:sizeLine=16777216:=sizeLine_eq
  refine ⟨_,(aF (bL (bE kJ (pv 0) bT (bQ (lP iH aG))))),?_⟩
  (try rw [eK]);(try rw [cxK1])
  refine ⟨_,rfl,_,rfl,_,rfl,_,rfl,(by omega),?_⟩
  rw [show -(1:Int) = -1 from rfl,mF hl.1]
  exact q
def zL:Sp:=fun vs H Q _=>∃ t:List Nat,vs=[T t]∧(1<=t.length∧t.length<=1000)∧Q (T (t.drop 1)) H
theorem Af {f:Addr}{fd:FuncData}(F:Fun K "end_of" "end_of" gR f fd)(tt:Txt K mg ad):cT P w K mg base (CX1 P w) 1 f fd ["word"] zL:=by
 refine F.okN Cr (fun vs H Q E h=>?_) (fun cdv A outer s H vs Q E hr h=>?_)
 ·obtain ⟨t,rfl,_⟩:=h
  rfl
 ·obtain ⟨t,rfl,hl,q⟩:=h
  have hs:sizeLine=16777216:=sizeLine_eq
  refine ⟨_,(aF (bL (bE kJ (pv 0) (bQ aG) bT))),?_⟩
  (try rw [eK]);(try rw [cxK1])
  refine ⟨_,rfl,_,rfl,_,rfl,(by omega),?_⟩
  have e:gG t (some 1) none=t.drop 1:=gU (k:=1) hl.1
  rw [e]
  exact q
theorem aH {H:Hp}{D:Addr}{o:HO}(h:H D=none):aN H (upd H D o):=fun b u e=>by rw [aI (aK e h)];exact e
theorem Ga {H G:Hp}(s:aN H G):∃ H',H'=G∧aN H H':=⟨G,rfl,s⟩
theorem sO {H G:Hp}{D:Addr}{o:HO}(s:aN H (upd G D o)):∃ H',H'=upd G D o∧aN H H'∧H' D=some o:=⟨_,rfl,s,aC⟩
def beg (l:List Nat):List Nat:=l.take (l.length-1)
def Abc (x:List Nat):Prop:=∀ c∈x,97<=c∧c<103
theorem uM {t:List Nat}:∀ {ls:List (List Nat)},inV (T t) (ls.map T)=decide (t∈ls)
 | []=>by simp [inV]
 | l::ls=>by
  have ih:=@uM t ls
  have e:inV (T t) ((l::ls).map T)=(eqV (T l) (T t)||inV (T t) (ls.map T)):=rfl
  have e2:eqV (T l) (T t)=decide (t=l):=by
   show (tx l==tx t)=decide (t=l)
   rw [Bool.eq_iff_iff,beq_iff_eq,decide_eq_true_iff]
   exact ⟨fun h=>(fU h).symm,fun h=>by rw [h]⟩
  rw [e,ih,e2,Bool.eq_iff_iff,Bool.or_eq_true,decide_eq_true_iff,decide_eq_true_iff,decide_eq_true_iff,List.mem_cons]
def IsP (ms:List (List Nat))(z:List Nat):Prop:=∃ w∈ms,z=beg w∨z=w.drop 1
def oI (C:Addr):Sp:=fun vs H Q _=>∃ (x tp:Addr) (n:Nat) (ms:List (List Nat)),vs=[.ref x]∧mW C H x tp n ms∧kB ms n ∧
 ∀ (D:Addr) (ps:List (List Nat)) (H':Hp),H D=none->aN H H'->H' D=some (.lst (ps.map T))->ps.Pairwise (fun a b=>¬ b<a)->ps.Nodup->(∀ z,z∈ps↔IsP ms z)->Q (.ref D) H'
theorem An {f:Addr}{fd:FuncData}(F:Fun K "pieces" "pieces" fQ f fd)(tt:Txt K mg ad)(C_begin_of:Cal P w K mg base (CX1 P w) "begin_of" 1 ["word"] nU)(C_end_of:Cal P w K mg base (CX1 P w) "end_of" 1 ["word"] zL) :
  cT P w K mg base (CX1 P w) 2 f fd ["web"] (oI ad.Web):=by
 refine F.okN Be (fun vs H Q E h=>?_) (fun cdv A outer s H vs Q E hr h=>?_)
 ·obtain ⟨x,tp,n,ms,rfl,_⟩:=h
  rfl
 ·obtain ⟨x,tp,n,ms,rfl,hW,hok,q⟩:=h
  have hs:sizeLine=16777216:=sizeLine_eq
  obtain ⟨⟨dx,hx⟩,htp⟩:=id hW
  obtain ⟨hne,h64,hn,hxs,hnd⟩:=id hok
  have ulen:∀ ls:List (List Nat),(gQ ls).length<=ls.length:=fun ls=>jO ls _
  refine ⟨_,(aF (bL (aM (lG rfl) (by rfl) tt.b_sorted PyProof.Rows.boot_sorted (aA (aL Lj (eF (lZ rfl) (by rfl) tt.b_set (by decide +kernel) (aA (eR wB rfl (xR (yK (pv 0) rfl)) (fun cl C s' H' fp=>(aU C_begin_of hr bU (aA (pv 0) aD)))) aD)) (eF (lZ rfl) (by rfl) tt.b_set (by decide +kernel) (aA (eR vO rfl (xR (yK (pv 0) rfl)) (fun cl C s' H' fp=>(aU C_end_of hr bU (aA (pv 0) aD)))) aD))) aD)))),?_⟩
  (try rw [eK]);(try rw [cxK1])
  refine ⟨_,rfl,x,ad.Web,dx,_,_,rfl,hx,tt.cl_Web,tt.na_Web_words,yD _ _,tp,rfl,⟨_,SqT.of htp⟩,?_⟩
  refine jZ (fun v=>T (beg (unT v))) (lU (SqT.of htp)) (by rw [List.length_map];omega) (fun v H2 hv s2 N hN=>?_) fun D1 H2 hD1 s2 hd2=>?_
  ·obtain ⟨l,hl,rfl⟩:=List.mem_map.mp hv
   have hll:=(hxs l hl).1
   have z:=hN H2 (aN.refl _)
   rw [fH] at z
   exact ⟨_,rfl,l,rfl,⟨by omega,by omega⟩,z⟩
  rw [iC (f:=fun l=>T (beg l)),show ms.map (fun l=>T (beg l))=(ms.map beg).map T by rw [List.map_map];rfl] at hd2
  refine ⟨D1,ms.map beg,rfl,SqL.of hd2,(by rw [List.length_map];omega),fun S1 hS1=>?_⟩
  have s3:=s2.trans (aH (o:=jU w S1 (gQ (ms.map beg))) hS1)
  have hd3:upd H2 S1 (jU w S1 (gQ (ms.map beg))) S1=some (jU w S1 (gQ (ms.map beg))):=aC
  refine ⟨_,rfl,x,ad.Web,dx,_,_,rfl,s3 x _ hx,tt.cl_Web,tt.na_Web_words,yD _ _,tp,rfl,⟨_,SqT.of (s3 tp _ htp)⟩,?_⟩
  refine jZ (fun v=>T ((unT v).drop 1)) (lU (SqT.of (s3 tp _ htp))) (by rw [List.length_map];omega) (fun v H4 hv s4 N hN=>?_) fun D2 H4 hD2 s4 hd4=>?_
  ·obtain ⟨l,hl,rfl⟩:=List.mem_map.mp hv
   have hll:=(hxs l hl).1
   have z:=hN H4 (aN.refl _)
   rw [fH] at z
   exact ⟨_,rfl,l,rfl,⟨by omega,by omega⟩,z⟩
  rw [iC (f:=fun l=>T (l.drop 1)),show ms.map (fun l=>T (l.drop 1))=(ms.map fun l=>l.drop 1).map T by rw [List.map_map];rfl] at hd4
  refine ⟨D2,ms.map (fun l=>l.drop 1),rfl,SqL.of hd4,(by rw [List.length_map];omega),fun S2 hS2=>?_⟩
  have s5:=aH (o:=jU w S2 (gQ (ms.map fun l=>l.drop 1))) hS2
  have l1:=ulen (ms.map beg)
  have l2:=ulen (ms.map fun l=>l.drop 1)
  rw [List.length_map] at l1 l2
  have hS1':=s5 S1 _ (s4 S1 _ hd3)
  have ne12:S1≠S2:=fun z=>by
   have g:=s4 S1 _ hd3
   rw [z,hS2] at g
   cases g
  refine ⟨S1,S2,_,_,rfl,rfl,ne12,hS1',aC,(fun z=>?_),(by omega),fun D5 qs hD5 hqn hql hqm=>?_⟩
  ·obtain ⟨m0,hm0⟩:∃ m0,m0∈ms:=List.exists_mem_of_ne_nil _ hne
   have:beg m0∈gQ (ms.map beg):=(gX _ _).mpr (List.mem_map_of_mem hm0)
   rw [z] at this
   cases this
  have s6:=aH (o:=jU w D5 qs) hD5
  refine ⟨D5,qs,rfl,aC,(by omega),fun ps D6 hD6 hp6 hw6=>?_⟩
  have s7:=aH (o:=.lst (ps.map T)) hD6
  have sall:=s3.trans (s4.trans (s5.trans (s6.trans s7)))
  have hD6':H D6=none:=by
   cases e:H D6 with
   | none=>rfl
   | some o =>
    have g:=(s3.trans (s4.trans (s5.trans s6))) D6 o e
    exact absurd (g.symm.trans hD6) (fun z=>nomatch z)
  refine q D6 ps _ hD6' sall aC hw6 (hp6.nodup_iff.mpr hqn) fun z=>?_
  rw [hp6.mem_iff,hqm,gX,gX,List.mem_map,List.mem_map]
  constructor
  ·rintro (⟨l,hl,rfl⟩ | ⟨l,hl,rfl⟩)
   ·exact ⟨l,hl,.inl rfl⟩
   ·exact ⟨l,hl,.inr rfl⟩
  ·rintro ⟨l,hl,rfl | rfl⟩
   ·exact .inl ⟨l,hl,rfl⟩
   ·exact .inr ⟨l,hl,rfl⟩
theorem itP {c A B:Prop}[Decidable c](hc:c)(h:A):if c then A else B:=by rw [if_pos hc];exact h
theorem itN {c A B:Prop}[Decidable c](hc:¬ c)(h:B):if c then A else B:=by rw [if_neg hc];exact h
theorem oR {xs:List V}{k:Nat}(h:k<=xs.length):eC xs (some (k:Int)) none=xs.drop k:=by
 unfold eC
 rw [HT.fA,show HT.sIx xs.length 0 (some (k:Int))=min k xs.length from HT.fE _ _ k,Nat.min_eq_left h,List.take_of_length_le (by rw [List.length_drop];exact Nat.le_refl _)]
theorem Mm {xs:List V}{k:Nat}(h:k<=xs.length):eC xs none (some (k:Int))=xs.take k:=by
 unfold eC
 rw [HT.fA,List.drop_zero,Nat.sub_zero,HT.fE,Nat.min_eq_left h]
theorem eU {i:Int}{n:Nat}(h:i.natAbs<=n)(hn:n<2 ^ 8000):Bg i:=Nat.lt_of_le_of_lt h hn
theorem iF {n k:Nat}(h:n<2 ^ k)(hk:k<=8000):n<2 ^ 8000:=Nat.lt_of_lt_of_le h (Nat.pow_le_pow_right (by decide) hk)
theorem jP {ns:List Int}{j:Nat}(h:j<ns.length):(ns.map V.int)[j]?=some (.int (ns.getD j 0)):=by
 rw [List.getElem?_map,List.getD_eq_getElem?_getD,List.getElem?_eq_getElem h]
 rfl
theorem SqL.keepTwo {K:PySem.W.Frag}{H G:Hp}{a:Addr}{xs:List V}(h:SqL K H a xs)(k:∀ o,H a=some o->G a=some o):SqL K G a xs:=by
 rcases h with (h | ⟨q,h⟩) | h
 ·exact .inl (.inl (k _ h))
 ·exact .inl (.inr ⟨q,k _ h⟩)
 ·exact .inr h
def sC:Sp:=fun vs H Q _=>∃ (num:Int) (pr:Nat),vs=[.int num,.int (pr:Nat)]∧Dt.dH pr∧pr<2 ^ 1000∧num % (pr:Int)≠0∧∀ inv:Int,Dt.Cg pr (inv*num) 1->0<=inv∧inv<pr->Q (.int inv) H
theorem yC {f:Addr}{fd:FuncData}(F:Fun K "inverse" "inverse" gD f fd)(tt:Txt K mg ad):cT P w K mg base (CX1 P w) 1 f fd ["number", "prime"] sC:=by
 refine F.okN cJ (fun vs H Q E h=>?_) (fun cdv A outer s H vs Q E hr h=>?_)
 ·obtain ⟨num,pr,rfl,_⟩:=h
  rfl
 ·obtain ⟨num,pr,rfl,hp,hpl,h0,q⟩:=h
  have hp1:=hp.1
  have hpos:(0:Int)<(pr:Int):=by omega
  have h8:=iF hpl (by decide)
  obtain ⟨r,hr'⟩:∃ r:Nat,num % (pr:Int)=r:=⟨(num % pr).toNat,by have:=Int.emod_nonneg num (show (pr:Int)≠0 by omega);omega⟩
  have hrl:r<pr:=by have:=Int.emod_lt_of_pos num hpos;omega
  refine ⟨_,(aB (aJ (i:=2) cJ.nd rfl (Or.inl rfl) (pv 1))
   (aB (aJ (i:=3) cJ.nd rfl (Or.inl rfl) (aL cM (pv 0) (pv 1)))
   (aB (aJ (i:=4) cJ.nd rfl (Or.inl rfl) aG)
   (aB (aJ (i:=5) cJ.nd rfl (Or.inl rfl) aG)
   (aB (lD PassesOwn.never (aQ nY (pv 3) aG (bF _)) (aB (aJ (i:=6) cJ.nd rfl (Or.inl rfl) (aL Ha (pv 2) (pv 3)))
   (aB (aJ (i:=7) cJ.nd rfl (Or.inl rfl) (aL jE (pv 2) (aL fB (pv 6) (pv 3))))
   (aB (aJ (i:=2) cJ.nd rfl (Or.inl rfl) (pv 3))
   (aB (aJ (i:=3) cJ.nd rfl (Or.inl rfl) (pv 7))
   (aB (aJ (i:=8) cJ.nd rfl (Or.inl rfl) (aL jE (pv 4) (aL fB (pv 6) (pv 5))))
   (aB (aJ (i:=4) cJ.nd rfl (Or.inl rfl) (pv 5))
   (aF (aJ (i:=5) cJ.nd rfl (Or.inl rfl) (pv 8))))))))))
   (aF (bL (aL cM (pv 5) (pv 1))))))))),?_⟩
  (try rw [eK]);(try rw [cxK1])
  refine ⟨_,rfl,?_⟩
  refine ⟨_,rfl,_,rfl,_,_,rfl,rfl,hpos,?_⟩
  refine ⟨fun m σ H2=>H2=H∧∃ (last rest:Nat) (lt t:Int) (v6 v7 v8:Option V),m=rest∧Dt.Euc pr num last rest lt t∧(last<=pr∧rest<=pr)∧σ=[some (.int num),some (.int (pr:Nat)),some (.int (last:Nat)),some (.int (rest:Nat)),some (.int lt),some (.int t),v6,v7,v8],
   ⟨_,rfl,pr,r,0,1,none,none,none,rfl,Dt.Euc.init hp hr' (by omega),⟨Nat.le_refl _,by omega⟩,by rw [<- hr'];rfl⟩,?_⟩
  rintro m σ H2 ⟨rfl,last,rest,lt,t,v6,v7,v8,rfl,he,⟨hl,hrp⟩,rfl⟩
  have hpo:=he.pos
  obtain ⟨ht,hlt⟩:=he.tle
  refine ⟨_,rfl,_,rfl,_,rfl,_,rfl,?_⟩
  by_cases h1:m=1
  ·refine itN (by rw [decide_eq_true (by omega)];exact Bool.false_ne_true) ?_
   exact ⟨_,rfl,_,rfl,_,_,rfl,rfl,hpos,q _ (he.fin h1) ⟨Int.emod_nonneg _ (by omega),Int.emod_lt_of_pos _ hpos⟩⟩
  ·refine itP (by rw [decide_eq_false (by omega)];rfl) ?_
   refine ⟨_,fun σ' H' z=>z,?_⟩
   have hq1:=Nat.div_le_self last m
   have bm:Bg ((m:Nat):Int):=eU (n:=pr) (by rw [Int.natAbs_natCast];exact hrp) h8
   have bq:Bg ((last/m:Nat):Int):=eU (n:=pr) (by rw [Int.natAbs_natCast];omega) h8
   refine ⟨_,rfl,_,rfl,_,_,rfl,rfl,⟨by show (0:Int)<(m:Int);omega,bm⟩,?_⟩
   refine ⟨_,rfl,_,rfl,_,rfl,_,_,rfl,rfl,⟨bq,bm⟩,_,_,rfl,rfl,?_⟩
   have e1:((last:Nat):Int)-((last/m:Nat):Int)*((m:Nat):Int)=((last % m:Nat):Int):=by
    have h:=congrArg (fun n:Nat=>(n:Int)) (Nat.div_add_mod last m)
    simp only [Int.natCast_add,Int.natCast_mul] at h
    rw [Int.mul_comm] at h
    omega
   refine ⟨_,rfl,?_⟩
   refine ⟨_,rfl,?_⟩
   refine ⟨_,rfl,_,rfl,_,rfl,_,_,rfl,rfl,⟨bq,eU ht h8⟩,_,_,rfl,rfl,?_⟩
   refine ⟨_,rfl,?_⟩
   refine ⟨_,rfl,?_⟩
   have hml:=Nat.mod_lt last (show m>0 by omega)
   exact ⟨last % m,hml,rfl,m,last % m,t,_,_,_,_,rfl,he.step h1,⟨hrp,by omega⟩,by rw [<- e1];rfl⟩
def low (back:Int)(pr:Nat)(top row:List Int):List Int:=List.zipWith (fun x y=>x-row.getD 0 0*back % (pr:Int)*y) (row.drop 1) (top.drop 1)
set_option genInjectivity false in
structure vE (back:Int)(pr n:Nat)(top row:List Int):Prop where
 l1:row.length=n+1
 l2:top.length=n+1
 sz:n<=1000
 pos:0<pr
 ps:pr<2 ^ 1000
 b0:Bg (row.getD 0 0)
 bk:back.natAbs<=pr
 tp:∀ y∈top,y.natAbs<=pr
def Fa (K:PySem.W.Frag):Sp:=fun vs H Q _=>∃ (a b:Addr) (back:Int) (pr n:Nat) (row top:List Int),vs=[.ref a,.ref b,.int back,.int (pr:Nat)]∧SqL K H a (row.map V.int)∧SqL K H b (top.map V.int)∧vE back pr n top row∧∀ D H',H D=none->aN H H'->H' D=some (.lst ((low back pr top row).map V.int))->Q (.ref D) H'
theorem yO {f:Addr}{fd:FuncData}(F:Fun K "lowered" "lowered" fK f fd)(tt:Txt K mg ad):cT P w K mg base (CX1 P w) 1 f fd ["row", "top", "back", "prime"] (Fa K):=by
 refine F.okN oE (fun vs H Q E h=>?_) (fun cdv A outer s H vs Q E hr h=>?_)
 ·obtain ⟨a,b,back,pr,n,row,top,rfl,_⟩:=h
  rfl
 ·obtain ⟨a,b,back,pr,n,row,top,rfl,hA,hB,ok,q⟩:=h
  have hs:sizeLine=16777216:=sizeLine_eq
  obtain ⟨l1,l2,sz,pos,ps,b0,bk,tp⟩:=ok
  have hpos:(0:Int)<(pr:Int):=by omega
  have h8:=iF ps (by decide)
  have t0:=Int.emod_nonneg (row.getD 0 0*back) (show (pr:Int)≠0 by omega)
  have t1:=Int.emod_lt_of_pos (row.getD 0 0*back) hpos
  refine ⟨_,(aB (aJ (i:=4) oE.nd rfl (Or.inr rfl) (aL cM (aL fB (eS cX (pv 0) aG (fun _ _=>rfl)) (pv 2)) (pv 3)))
   (aB (cL (aQ eI (pv 4) aG (bF _)) (aF (bL (bE eP (pv 0) (bQ aG) bT))) bD)
   (aF (bL (Dv sL rfl (Mi (by rfl) tt.b_zip (aA (bE eP (pv 0) (bQ aG) bT) (aA (bE eP (pv 1) (bQ aG) bT) aD))) (fun cl C s' H' fp=>(aL jE (pv 0) (aL fB (pv 6) (pv 1))))))))),?_⟩
  (try rw [eK]);(try rw [cxK1])
  refine ⟨_,rfl,a,_,_,_,rfl,rfl,hA,dC (j:=0) (jP (by omega)),_,rfl,_,_,rfl,rfl,⟨b0,eU bk h8⟩,_,rfl,_,_,rfl,rfl,hpos,?_⟩
  refine ⟨_,rfl,_,rfl,_,rfl,_,rfl,?_⟩
  have cA:eC (row.map V.int) (some (1:Int)) none=(row.drop 1).map V.int:=by rw [List.map_drop];exact oR (k:=1) (by rw [List.length_map];omega)
  have cB:eC (top.map V.int) (some (1:Int)) none=(top.drop 1).map V.int:=by rw [List.map_drop];exact oR (k:=1) (by rw [List.length_map];omega)
  by_cases hz:row.getD 0 0*back % (pr:Int)=0
  ·refine itP (decide_eq_true hz) ?_
   refine ⟨_,rfl,_,rfl,a,_,rfl,hA,fun p hp=>?_⟩
   rw [cA]
   refine q p _ hp (aH hp) ?_
   rw [aC]
   congr 3
   unfold low
   rw [hz]
   refine List.ext_getElem? fun i=>?_
   rw [List.getElem?_zipWith]
   by_cases hi:i<n
   ·rw [List.getElem?_eq_getElem (l:=row.drop 1) (by rw [List.length_drop];omega),List.getElem?_eq_getElem (l:=top.drop 1) (by rw [List.length_drop];omega)]
    show some _=some _
    rw [Int.zero_mul,Int.sub_zero]
   ·rw [List.getElem?_eq_none (by rw [List.length_drop];omega)]
  ·refine itN (fun z=>hz (of_decide_eq_true z)) ?_
   refine ⟨_,rfl,_,rfl,a,_,rfl,hA,fun p1 hp1=>?_⟩
   rw [cA]
   have t1':=aH (o:=.lst ((row.drop 1).map V.int)) hp1
   refine ⟨_,rfl,_,rfl,b,_,rfl,t1'.seq hB,fun p2 hp2=>?_⟩
   rw [cB]
   have t2':=aH (o:=.lst ((top.drop 1).map V.int)) hp2
   refine ⟨p1,p2,rfl,⟨_,SqL.of (t2' p1 _ aC)⟩,⟨_,SqL.of aC⟩,?_⟩
   refine Fo (fun x y=>match x,y with | .int i,.int j=>.int (i-row.getD 0 0*back % (pr:Int)*j) | _,_=>.non) (SqL.of (t2' p1 _ aC)) (SqL.of aC) (by rw [List.length_map,List.length_map,List.length_drop,List.length_drop,l1,l2]) (by rw [List.length_map,List.length_drop];omega) (fun i x y H' hx hy s' N hN=>?_) fun D H' hD s' hd=>?_
   ·rw [List.getElem?_map] at hx hy
    obtain ⟨i1,hi1,rfl⟩:=Option.map_eq_some_iff.mp hx
    obtain ⟨j1,hj1,rfl⟩:=Option.map_eq_some_iff.mp hy
    have hj2:=tp j1 (List.mem_of_mem_drop (List.mem_of_getElem? hj1))
    exact ⟨_,rfl,_,rfl,_,rfl,_,_,rfl,rfl,⟨eU (n:=pr) (by omega) h8,eU hj2 h8⟩,_,_,rfl,rfl,hN H' (aN.refl _)⟩
   ·have hD0:H D=none:=by
     cases e:H D with
     | none=>rfl
     | some o=>have:=(t1'.trans t2') D o e;rw [hD] at this;cases this
    refine q D H' hD0 (t1'.trans (t2'.trans s')) ?_
    rw [hd]
    congr 3
    unfold low
    rw [List.zipWith_map,List.map_zipWith]
def tU (K:PySem.W.Frag):Sp:=fun vs H Q _=>∃ (a:Addr) (ns:List Int),vs=[.ref a]∧SqL K H a (ns.map V.int)∧(∀ H',aN H H'->(∀ x∈ns,x=0)->Q .non H')∧∀ (p:Nat) (H':Hp),aN H H'->p<ns.length->ns.getD p 0≠0->Q (.int (p:Nat)) H'
theorem gH {f:Addr}{fd:FuncData}(F:Fun K "first_other_than_nought" "first_other_than_nought" bG f fd)(tt:Txt K mg ad):cT P w K mg base (CX1 P w) 1 f fd ["numbers"] (tU K):=by
 refine F.okN cR (fun vs H Q E h=>?_) (fun cdv A outer s H vs Q E hr h=>?_)
 ·obtain ⟨a,ns,rfl,_⟩:=h
  rfl
 ·obtain ⟨a,ns,rfl,hA,q0,q1⟩:=h
  refine ⟨_,(aB (dA PassesOwn.never rfl (Hw (by rfl) tt.b_enumerate (aA (pv 0) aD)) (xV rfl (gS (bS (i:=1) cR.nd rfl (Or.inl rfl)) (gS (bS (i:=2) cR.nd rfl (Or.inl rfl)) sB))) (aF (cL (aQ nY (pv 2) aG (bF _)) (aF (bL (pv 1))) bD)))
   (aF (bL Mf))),?_⟩
  (try rw [eK]);(try rw [cxK1])
  refine ⟨_,rfl,a,rfl,⟨_,hA⟩,?_⟩
  refine Fg (K:=K) (a:=a) (xs:=ns.map V.int) (fun i σ H2=>aN H H2∧(∀ j,j<i->ns.getD j 0=0)∧∃ v1 v2:Option V,σ=[some (.ref a),v1,v2]) ⟨aN.refl _,fun j hj=>absurd hj (Nat.not_lt_zero j),none,none,rfl⟩ (fun i σ H2 _ h=>h.1.seq hA) ?_ ?_
  ·rintro i x p σ H2 hx hp ⟨s2,hz,v1,v2,rfl⟩
   have hi:i<ns.length:=by have:=(List.getElem?_eq_some_iff.mp hx).1;rwa [List.length_map] at this
   rw [jP hi] at hx
   obtain rfl:=Option.some.inj hx
   have t2:=aH (o:=.tup [.int (i:Nat),.int (ns.getD i 0)]) hp
   refine ⟨p,_,rfl,SqT.of aC,rfl,_,_,rfl,_,_,rfl,rfl,?_⟩
   refine ⟨_,rfl,_,rfl,_,rfl,_,rfl,?_⟩
   by_cases h0:ns.getD i 0=0
   ·refine itN (by rw [decide_eq_true h0];exact Bool.false_ne_true) ?_
    exact ⟨s2.trans t2,fun j hj=>by
     rcases Nat.lt_or_ge j i with z | z
     ·exact hz j z
     ·rw [show j=i by omega];exact h0,_,_,rfl⟩
   ·refine itP (by rw [decide_eq_false h0];rfl) ?_
    exact ⟨_,rfl,q1 i _ (s2.trans t2) hi h0⟩
  ·rintro σ H2 ⟨s2,hz,v1,v2,rfl⟩
   rw [List.length_map] at hz
   exact q0 H2 s2 fun x hx=>by
    obtain ⟨j,hj⟩:=List.getElem?_of_mem hx
    have hjl:=(List.getElem?_eq_some_iff.mp hj).1
    have:=hz j hjl
    rwa [List.getD_eq_getElem?_getD,hj] at this
set_option genInjectivity false in
structure Em (M:List (List Int))(n pr E:Nat):Prop where
 len:M.length=n
 row:∀ r∈M,r.length=n
 sz:n<=100
 pm:Dt.dH pr
 ps:pr<2 ^ 1000
 be:∀ r∈M,∀ x∈r,x.natAbs<=E
 bd:E+n*(pr*pr)<2 ^ 8000
def yB (K:PySem.W.Frag):Sp:=fun vs H Q _=>∃ (a:Addr) (as:List Addr) (M:List (List Int)) (n pr E:Nat),vs=[.ref a,.int (pr:Nat)]∧SqL K H a (as.map V.ref)∧dI K H as M∧Em M n pr E∧∀ (r:Int) (H':Hp),aN H H'->0<=r∧r<pr->Dt.Cg pr r (Dt.det n (Dt.ent M))->Q (.int r) H'
theorem lO {ns:List Int}{j:Nat}(h:j<ns.length):ns.getD j 0∈ns:=by
 rw [List.getD_eq_getElem?_getD,List.getElem?_eq_getElem h]
 exact List.getElem_mem h
theorem yP {back:Int}{pr n:Nat}{top row:List Int}(h:vE back pr n top row):(low back pr top row).length=n:=by
 unfold low
 have:=h.l1
 have:=h.l2
 rw [List.length_zipWith,List.length_drop,List.length_drop]
 omega
theorem zF {back:Int}{pr n:Nat}{top row:List Int}(h:vE back pr n top row){k:Nat}(hk:k<n):(low back pr top row).getD k 0=row.getD (k+1) 0-row.getD 0 0*back % (pr:Int)*top.getD (k+1) 0:=by
 have h1:=h.l1
 have h2:=h.l2
 unfold low
 rw [List.getD_eq_getElem?_getD,List.getElem?_zipWith,List.getElem?_drop,List.getElem?_drop,Nat.add_comm 1 k,List.getElem?_eq_getElem (show k+1<row.length by omega),List.getElem?_eq_getElem (show k+1<top.length by omega),List.getD_eq_getElem?_getD (l:=row) (i:=k+1),List.getElem?_eq_getElem (show k+1<row.length by omega),List.getD_eq_getElem?_getD (l:=top),List.getElem?_eq_getElem (show k+1<top.length by omega)]
 rfl
theorem Hb {back:Int}{pr n E:Nat}{top row:List Int}(h:vE back pr n top row)(hE:∀ x∈row,x.natAbs<=E):∀ x∈low back pr top row,x.natAbs<=E+pr*pr:=fun x hx=>by
 obtain ⟨k,hk⟩:=List.getElem?_of_mem hx
 have hkl:=(List.getElem?_eq_some_iff.mp hk).1
 rw [yP h] at hkl
 have h1:=h.l1
 have h2:=h.l2
 have e:=zF h hkl
 rw [List.getD_eq_getElem?_getD,hk] at e
 have e:x=_:=e
 have b1:=hE _ (lO (ns:=row) (j:=k+1) (by omega))
 have b2:=h.tp _ (lO (ns:=top) (j:=k+1) (by omega))
 have hp:=h.pos
 have t0:=Int.emod_nonneg (row.getD 0 0*back) (show (pr:Int)≠0 by omega)
 have t1:=Int.emod_lt_of_pos (row.getD 0 0*back) (show (0:Int)<pr by omega)
 have b3:=Int.natAbs_sub_le (row.getD (k+1) 0) (row.getD 0 0*back % (pr:Int)*top.getD (k+1) 0)
 rw [Int.natAbs_mul] at b3
 have b4:(row.getD 0 0*back % (pr:Int)).natAbs*(top.getD (k+1) 0).natAbs<=pr*pr:=Nat.mul_le_mul (by omega) b2
 rw [e]
 omega
theorem jX {f:Addr}{fd:FuncData}(F:Fun K "determinant_rest" "determinant_rest" bH f fd)(tt:Txt K mg ad)(C_first_other_than_nought:Cal P w K mg base (CX1 P w) "first_other_than_nought" 1 ["numbers"] (tU K))(C_inverse:Cal P w K mg base (CX1 P w) "inverse" 1 ["number", "prime"] sC)(C_lowered:Cal P w K mg base (CX1 P w) "lowered" 1 ["row", "top", "back", "prime"] (Fa K)):cT P w K mg base (CX1 P w) 2 f fd ["square", "prime"] (yB K):=by
 refine F.okN bA (fun vs H Q E h=>?_) (fun cdv A outer s H vs Q E hr h=>?_)
 ·obtain ⟨a,as,M,n,pr,E0,rfl,_⟩:=h
  rfl
 ·obtain ⟨a,as,M,n,pr,B,rfl,hA,hR,ok,q⟩:=h
  have hs:sizeLine=16777216:=sizeLine_eq
  have hu:=Nat.lt_of_succ_lt (eY hr)
  obtain ⟨len,row,sz,pm,ps,be,bd⟩:=ok
  have hp1:=pm.1
  have hpos:(0:Int)<(pr:Int):=by omega
  have h8:=iF ps (by decide)
  refine ⟨_,(aB (aJ (i:=2) bA.nd rfl (Or.inl rfl) (eF lM (by rfl) tt.b_list (by decide +kernel) (aA (pv 0) aD)))
   (aB (aJ (i:=3) bA.nd rfl (Or.inl rfl) aG)
   (aB (lD PassesOwn.never (aQ (Gm K rfl hu) (pv 2) (dX aD) (bF _)) (aB (aJ (i:=4) bA.nd rfl (Or.inl rfl) (aU C_first_other_than_nought hr bU (aA (eR iV rfl (cD (pv 2)) (fun cl C s' H' fp=>(aL cM (eS (Bz K rfl) (pv 0) aG (fun _ _=>rfl)) (pv 2)))) aD)))
   (aB (cL (wX (Me (pv 4))) (aF (bL aG)) bD)
   (aB (aJ (i:=5) bA.nd rfl (Or.inr rfl) (eR iO rfl (cD (eS cX (pv 2) (pv 4) (fun _ _=>rfl))) (fun cl C s' H' fp=>(aL cM (pv 0) (pv 2)))))
   (aB (aJ (i:=6) bA.nd rfl (Or.inr rfl) (aU C_inverse hr bU (aA (eS cX (pv 5) aG (fun _ _=>rfl)) (aA (pv 1) aD))))
   (aB (aJ (i:=3) bA.nd rfl (Or.inl rfl) (aL cM (aL fB (pv 3) (eS cX (pv 5) aG (fun _ _=>rfl))) (pv 1)))
   (aB (Ni (t':=(fun D σ H=>∃ (x0 x2:V) (pr:Nat) (rst:Int) (p:Nat) (v5 v6:Option V),σ=[some x0,some (.int (pr:Nat)),some x2,some (.int rst),some (.int (p:Nat)),v5,v6]∧D.nx [some x0,some (.int (pr:Nat)),some x2,some (.int (if p % 2=1 then (pr:Int)-rst else rst)),some (.int (p:Nat)),v5,v6] H)) (cL (aQ eI (aL cM (pv 4) aG) aG (bF _)) (aF (aJ (i:=3) bA.nd rfl (Or.inl rfl) (aL jE (pv 1) (pv 3)))) bD) ?rA)
   (aF (wN (i:=2) iP rfl (cD (aL jQ (bE eP (pv 2) bT (bQ (pv 4))) (bE eP (pv 2) (bQ (aL dR (pv 4) aG)) bT))) (fun cl C s' H' fp=>(aU C_lowered hr bU (aA (pv 0) (aA (pv 6) (aA (pv 7) (aA (pv 2) aD)))))) bA.nd rfl rfl)))))))))
   (aF (bL (pv 3)))))),?_⟩
  (try rw [eK]);(try rw [cxK1])
  case rA =>
   rintro D σ H ⟨x0,x2,pr,rst,p,v5,v6,rfl,nxt⟩
   refine ⟨_,rfl,_,_,rfl,rfl,(by show (0:Int)<2;decide),_,rfl,_,rfl,_,rfl,?_⟩
   by_cases h2:p % 2=1
   ·refine itP (decide_eq_true (by omega)) ?_
    refine ⟨_,rfl,_,rfl,_,_,rfl,rfl,?_⟩
    rw [if_pos h2] at nxt
    exact nxt
   ·refine itN (fun z=>h2 (by have:=of_decide_eq_true z;omega)) ?_
    rw [if_neg h2] at nxt
    exact nxt
  refine ⟨_,rfl,a,_,rfl,.inl hA,fun L0 hL0=>?_⟩
  have t0:=aH (o:=.lst (as.map V.ref)) hL0
  refine ⟨fun m σ G=>∃ (Lr:Addr) (bs:List Addr) (N:List (List Int)) (k:Nat) (rest:Int) (v4 v5 v6:Option V),aN H G∧G Lr=some (.lst (bs.map V.ref))∧dI K G bs N∧N.length=m∧(∀ r∈N,r.length=m)∧m+k=n∧(∀ r∈N,∀ x∈r,x.natAbs<=B+k*(pr*pr))∧(0<rest∧rest<pr)∧Dt.Cg pr (rest*Dt.det m (Dt.ent N)) (Dt.det n (Dt.ent M))∧σ=[some (.ref a),some (.int (pr:Nat)),some (.ref Lr),some (.int rest),v4,v5,v6],
   ⟨n,L0,as,M,0,1,none,none,none,t0,aC,hR.on t0,len,row,by omega,fun r hr x hx=>by rw [Nat.zero_mul];exact be r hr x hx,⟨by decide,by omega⟩,by rw [Int.one_mul];exact Dt.Cg.refl _,rfl⟩,?_⟩
  rintro m σ G ⟨Lr,bs,N,k,rest,v4,v5,v6,sG,hL,hN,hNl,hNr,hmk,hNb,hrest,hcg,rfl⟩
  have hbl:=hN.1
  refine ⟨_,rfl,(by show 0<=sizeLine;omega),fun E1 hE1=>?_⟩
  have tE:=aH (o:=.lst []) hE1
  refine ⟨Lr,E1,_,rfl,rfl,SqL.of (tE Lr _ hL),SqL.of aC,_,rfl,?_⟩
  cases m with
  | zero =>
   obtain rfl:bs=[]:=List.length_eq_zero_iff.mp (by omega)
   refine xB ?_
   refine ⟨_,rfl,q rest _ (sG.trans tE) ⟨by omega,hrest.2⟩ ?_⟩
   have e:rest*Dt.det 0 (Dt.ent N)=rest:=Int.mul_one rest
   rw [e] at hcg
   exact hcg
  | succ m =>
   refine itP (by cases bs with | nil=>rw [List.length_nil] at hbl;omega | cons y r=>rfl) ?_
   refine ⟨_,fun σ' H' z=>z,?_⟩
   have hL2:=tE Lr _ hL
   have hN2:=hN.on tE
   generalize upd G E1 (.lst [])=G2 at tE hL2 hN2
   refine ⟨_,rfl,Lr,rfl,⟨_,SqL.of hL2⟩,?_⟩
   refine Ny (fun r=>r.getD 0 0 % (pr:Int)) (cQ (SqL.of hL2)) hN2 (by omega) (fun a' r G' hrm hS s' N' hN'=>?_) fun D1 G3 hD1 s3 hd3=>?_
   ·exact ⟨_,rfl,a',_,_,_,rfl,rfl,hS,dC (j:=0) (jP (by rw [hNr r hrm];omega)),_,rfl,_,_,rfl,rfl,hpos,hN' G' (aN.refl _)⟩
   have hL3:=s3 Lr _ hL2
   have hN3:=hN2.on s3
   have sG3:=sG.trans (tE.trans s3)
   refine ⟨D1,_,rfl,SqL.of hd3,fun G4 s4 hall=>?_,fun p G4 s4 hp hne=>?_⟩
   ·refine ⟨_,rfl,_,rfl,Cm ?_⟩
    refine q 0 G4 (sG3.trans s4) ⟨Int.le_refl _,hpos⟩ ?_
    have h0:=Dt.Op (m:=pr) (M:=N) (n:=m) (fun r hrm=>Int.dvd_of_emod_eq_zero (hall _ (List.mem_map.mpr ⟨r,hrm,rfl⟩))) hNl
    have h1:=(Dt.Cg.refl (m:=pr) rest).mul h0
    rw [Int.mul_zero] at h1
    exact h1.symm.trans hcg
   ·rw [List.length_map] at hp
    obtain ⟨rp,hrp⟩:∃ rp,N[p]?=some rp:=⟨_,List.getElem?_eq_getElem hp⟩
    obtain ⟨bp,hbp⟩:∃ bp,bs[p]?=some bp:=⟨_,List.getElem?_eq_getElem (by omega)⟩
    have hrpm:=List.mem_of_getElem? hrp
    have hrl:=hNr rp hrpm
    have hne2:rp.getD 0 0 % (pr:Int)≠0:=by
     rw [List.getD_eq_getElem?_getD,List.getElem?_map,hrp] at hne
     exact hne
    refine ⟨_,rfl,_,rfl,xB ?_⟩
    have hL4:=s4 Lr _ hL3
    have hN4:=hN3.on s4
    have hS4:=hN4.2 p bp rp hbp hrp
    refine ⟨_,rfl,_,rfl,Lr,_,_,_,rfl,rfl,SqL.of hL4,dC (j:=p) (by rw [List.getElem?_map,hbp];rfl),bp,rfl,⟨_,hS4⟩,?_⟩
    refine jZ (fun v=>match v with | .int i=>.int (i % (pr:Int)) | _=>.non) (cQ hS4) (by rw [List.length_map];omega) (fun v G' hv s' N' hN'=>?_) fun D2 G5 hD2 s5 hd5=>?_
    ·obtain ⟨i,hi,rfl⟩:=List.mem_map.mp hv
     exact ⟨_,rfl,_,rfl,_,_,rfl,rfl,hpos,hN' G' (aN.refl _)⟩
    have hd5:G5 D2=some (.lst ((rp.map fun i=>i % (pr:Int)).map V.int)):=by rw [hd5,List.map_map,List.map_map];rfl
    have htl:(rp.map fun i=>i % (pr:Int)).length=m+1:=by rw [List.length_map,hrl]
    have htop:∀ k,k<m+1->(rp.map fun i=>i % (pr:Int)).getD k 0=rp.getD k 0 % (pr:Int):=fun k hk=>by
     rw [List.getD_eq_getElem?_getD,List.getElem?_map,List.getD_eq_getElem?_getD,List.getElem?_eq_getElem (by omega)]
     rfl
    have htb:∀ y∈rp.map (fun i=>i % (pr:Int)),y.natAbs<=pr:=fun y hy=>by
     obtain ⟨i,_,rfl⟩:=List.mem_map.mp hy
     have:=Int.emod_nonneg i (show (pr:Int)≠0 by omega)
     have:=Int.emod_lt_of_pos i hpos
     omega
    have ht0:(rp.map fun i=>i % (pr:Int)).getD 0 0 % (pr:Int)≠0:=by rw [htop 0 (by omega),Int.emod_emod];exact hne2
    have htc:∀ k,k<m+1->Dt.Cg pr ((rp.map fun i=>i % (pr:Int)).getD k 0) ((N.getD p []).getD k 0):=fun k hk=>by
     rw [htop k hk,List.getD_eq_getElem?_getD (l:=N),hrp]
     exact Dt.lX _
    generalize rp.map (fun i=>i % (pr:Int))=top at hd5 htl htop htb ht0 htc
    have sG5:=sG3.trans (s4.trans s5)
    have hL5:=s5 Lr _ hL4
    have hN5:=hN4.on s5
    refine ⟨_,rfl,D2,_,_,_,rfl,rfl,SqL.of hd5,dC (j:=0) (jP (by omega)),_,rfl,top.getD 0 0,pr,rfl,pm,ps,ht0,fun inv hinv hib=>?_⟩
    have ht0b:=htb _ (lO (ns:=top) (j:=0) (by omega))
    refine ⟨_,rfl,_,rfl,D2,_,_,_,rfl,rfl,SqL.of hd5,dC (j:=0) (jP (by omega)),_,_,rfl,rfl,⟨eU (n:=pr) (by omega) h8,eU ht0b h8⟩,_,rfl,_,_,rfl,rfl,hpos,?_⟩
    refine ⟨_,_,pr,_,p,_,_,rfl,?_⟩
    have hpl:p<=bs.length:=by omega
    have c1:eC (bs.map V.ref) none (some ((p:Nat):Int))=(bs.take p).map V.ref:=by rw [List.map_take];exact Mm (by rw [List.length_map];omega)
    have c2:eC (bs.map V.ref) (some ((p:Nat)+1:Int)) none=(bs.drop (p+1)).map V.ref:=by rw [List.map_drop];exact oR (k:=p+1) (by rw [List.length_map];omega)
    refine ⟨_,rfl,_,rfl,_,rfl,Lr,_,rfl,SqL.of hL5,fun p1 hp1=>?_⟩
    rw [c1]
    have u1:=aH (o:=.lst ((bs.take p).map V.ref)) hp1
    refine ⟨_,rfl,_,rfl,_,_,rfl,rfl,_,rfl,Lr,_,rfl,SqL.of (u1 Lr _ hL5),fun p2 hp2=>?_⟩
    rw [c2]
    have u2:=aH (o:=.lst ((bs.drop (p+1)).map V.ref)) hp2
    refine ⟨p1,p2,_,_,rfl,rfl,SqL.of (u2 p1 _ aC),SqL.of aC,(by rw [List.length_map,List.length_map,List.length_take,List.length_drop];omega),fun p3 hp3=>?_⟩
    rw [show (bs.take p).map V.ref++(bs.drop (p+1)).map V.ref=(bs.eraseIdx p).map V.ref by rw [<- List.map_append,List.eraseIdx_eq_take_drop_succ]]
    have u3:=aH (o:=.lst ((bs.eraseIdx p).map V.ref)) hp3
    have u123:=u1.trans (u2.trans u3)
    refine ⟨p3,rfl,⟨_,SqL.of aC⟩,?_⟩
    have hlok:∀ r∈N,vE inv pr m top r:=fun r hrm=>⟨hNr r hrm,htl,by omega,by omega,ps,eU (hNb r hrm _ (lO (by rw [hNr r hrm];omega))) (Nat.lt_of_le_of_lt (Nat.add_le_add_left (Nat.mul_le_mul_right _ (show k<=n by omega)) B) bd),by omega,htb⟩
    have hsub:∀ r∈N.eraseIdx p,r∈N:=fun r hr=>List.mem_of_mem_eraseIdx hr
    refine Om (low inv pr top) (cQ (SqL.of aC)) ((hN5.erase p).on u123) (by rw [List.length_eraseIdx];split <;> omega) (fun a' r G' hrm hS s' N' hN'=>?_) fun D4 cs G6 hD4 s6 hd6 _ hR6=>?_
    ·exact ⟨_,rfl,_,rfl,_,rfl,_,rfl,a',D2,inv,pr,m,r,top,rfl,hS,SqL.of (s' D2 _ (u123 D2 _ hd5)),hlok r (hsub r hrm),fun D G'' hD s'' hd=>hN' D G'' s'' hD hd⟩
    ·have hel:=Dt.elim (m:=pr) (n:=m) (p:=p) (M:=N) (top:=top) (back:=inv) (t:=fun r=>r.getD 0 0*inv % (pr:Int)) (low:=low inv pr top) (by omega) hNl htc (by rw [Int.mul_comm];exact hinv) (fun r _=>Dt.lX _) fun r hrm k hk=>zF (hlok r hrm) hk
     obtain ⟨r1,r2⟩:=Dt.Bs hrest hinv hel hcg
     refine ⟨m,Nat.lt_succ_self m,D4,cs,(N.eraseIdx p).map (low inv pr top),k+1,_,_,_,_,sG5.trans (u123.trans s6),hd6,hR6,by rw [List.length_map,List.length_eraseIdx,if_pos (by omega)];omega,fun r hr=>?_,by omega,fun r hr=>?_,r1,r2,rfl⟩
     ·obtain ⟨r',hr',rfl⟩:=List.mem_map.mp hr
      exact yP (hlok r' (hsub r' hr'))
     ·obtain ⟨r',hr',rfl⟩:=List.mem_map.mp hr
      rw [Nat.add_mul,Nat.one_mul,<- Nat.add_assoc]
      exact Hb (hlok r' (hsub r' hr')) (hNb r' (hsub r' hr'))
set_option genInjectivity false in
structure uJ (M:List (List Int))(n:Nat):Prop where
 len:M.length=n
 row:∀ r∈M,r.length=n
 sz:n<=64
 sm:∀ r∈M,Dt.rs n r<=2 ^ 110
theorem uJ.part {M:List (List Int)}{n:Nat}(h:uJ M n)(i:Nat):Dt.pL ((M.take i).map (Dt.rs n))<2 ^ 8000:=by
 have h1:=Dt.Dz (R:=2 ^ 110) (l:=(M.take i).map (Dt.rs n)) fun x hx=>by
  obtain ⟨r,hr,rfl⟩:=List.mem_map.mp hx
  exact h.sm r (List.mem_of_mem_take hr)
 rw [List.length_map,List.length_take,<- Nat.pow_mul] at h1
 have:=h.len
 have:=h.sz
 exact Nat.lt_of_le_of_lt h1 (Nat.pow_lt_pow_right (by decide) (by omega))
def tO (K:PySem.W.Frag):Sp:=fun vs H Q _=>∃ (a:Addr) (as:List Addr) (M:List (List Int)) (n:Nat),vs=[.ref a]∧SqL K H a (as.map V.ref)∧dI K H as M∧uJ M n∧∀ H',aN H H'->Q (.int (Dt.pL (M.map (Dt.rs n)):Nat)) H'
theorem pB {f:Addr}{fd:FuncData}(F:Fun K "greatest_of" "greatest_of" cZ f fd)(tt:Txt K mg ad):cT P w K mg base (CX1 P w) 1 f fd ["square"] (tO K):=by
 refine F.okN eX (fun vs H Q E h=>?_) (fun cdv A outer s H vs Q E hr h=>?_)
 ·obtain ⟨a,as,M,n,rfl,_⟩:=h
  rfl
 ·obtain ⟨a,as,M,n,rfl,hA,hR,ok,q⟩:=h
  have hs:sizeLine=16777216:=sizeLine_eq
  have hrl:=hR.1
  have hlen:=ok.len
  have hsz:=ok.sz
  refine ⟨_,(aB (aJ (i:=1) eX.nd rfl (Or.inl rfl) aG)
   (aB (dA PassesOwn.never rfl (cD (pv 0)) (bS (i:=2) eX.nd rfl (Or.inl rfl)) (aF (aJ (i:=1) eX.nd rfl (Or.inl rfl) (aL fB (pv 1) (aM (Bp rfl) (by rfl) tt.b_sum PyProof.Rows.boot_sum (aA (eR mB rfl (cD (pv 2)) (fun cl C s' H' fp=>(aM Cv (by rfl) tt.b_abs PyProof.Rows.boot_abs (aA (pv 0) aD)))) aD))))))
   (aF (bL (pv 1))))),?_⟩
  (try rw [eK]);(try rw [cxK1])
  refine ⟨_,rfl,a,rfl,⟨_,hA⟩,?_⟩
  refine dS (K:=K) (a:=a) (xs:=as.map V.ref) (fun i σ G=>aN H G∧∃ v2:Option V,σ=[some (.ref a),some (.int (Dt.pL ((M.take i).map (Dt.rs n)):Nat)),v2]) ⟨aN.refl _,none,rfl⟩ (fun i σ G _ h=>h.1.seq hA) ?_ ?_
  ·rintro i v σ G hi ⟨sG,v2,rfl⟩
   obtain ⟨a',r,rfl,hr',hS⟩:=(hR.on sG).at hi
   have hrm:=List.mem_of_getElem? hr'
   have hrl2:=ok.row r hrm
   refine ⟨_,rfl,_,rfl,a',rfl,⟨_,hS⟩,?_⟩
   refine jZ (fun v=>match v with | .int i=>.int (if i<0 then -i else i) | _=>.non) (cQ hS) (by rw [List.length_map];omega) (fun v G' hv s' N' hN'=>?_) fun D2 G5 hD2 s5 hd5=>?_
   ·obtain ⟨i,hi,rfl⟩:=List.mem_map.mp hv
    exact ⟨_,rfl,_,rfl,hN' G' (aN.refl _)⟩
   have hd5:G5 D2=some (.lst ((r.map fun i=>if i<0 then -i else i).map V.int)):=by rw [hd5,List.map_map,List.map_map];rfl
   refine ⟨D2,_,rfl,SqL.of hd5,?_⟩
   rw [Dt.Ii hrl2]
   have e:Dt.pL ((M.take (i+1)).map (Dt.rs n))=Dt.pL ((M.take i).map (Dt.rs n))*Dt.rs n r:=by rw [List.take_add_one,hr',List.map_append];exact Dt.yY _ _
   refine ⟨_,_,rfl,rfl,⟨eU (by rw [Int.natAbs_natCast];exact Nat.le_refl _) (ok.part i),eU (n:=2 ^ 110) (by rw [Int.natAbs_natCast];exact ok.sm r hrm) (iF (k:=111) (by decide +kernel) (by decide))⟩,?_⟩
   refine ⟨sG.trans s5,some (.ref a'),?_⟩
   rw [e,Int.natCast_mul]
   rfl
  ·rintro σ G ⟨sG,v2,rfl⟩
   rw [List.length_map,List.take_of_length_le (by omega)]
   exact ⟨_,rfl,q G sG⟩
def kts:List Int:=[133,211,598,652,721,850,1282,1417,1582,1681,1726,1837,1885,2017,2377,2383,2452,2476,2530,2611,2662,2698,2773,2878,2917,2980,2998,3082,3238,3250,3343,3421,3427,3670,3817,4162,4252,4447,4468,4621,4630,4747,4867,4891,4915,5128,5143,5236,5401,5587,5650,5803,5833,5923,5986,6202,6235,6286,6496,6526,6736,7093,7561,7696,7831,7855,7882,7927,8143,8248]
def tD:Sp:=fun vs H Q _=>∃ (j:Nat) (last:Int),vs=[.int (j:Nat),.int last]∧j<7∧Q (.int (kts.getD j 0)) H
theorem mD {f:Addr}{fd:FuncData}(F:Fun K "further_times" "further_times" cV f fd)(tt:Txt K mg ad):cT P w K mg base (CX1 P w) 1 f fd ["place", "last"] tD:=by
 refine F.okN mQ (fun vs H Q E h=>?_) (fun cdv A outer s H vs Q E hr h=>?_)
 ·obtain ⟨j,last,rfl,_⟩:=h
  rfl
 ·obtain ⟨j,last,rfl,hj,q⟩:=h
  have hkt:SqT K H ad.KNOWN_TIMES (kts.map V.int):=SqT.tupIs tt.kt
  have hkl:(kts.map V.int).length=70:=rfl
  refine ⟨_,(aB (cL (aQ uR (pv 0) (aM aP (by rfl) tt.b_len PySem.boot_len (aA (eW (v:=.ref ad.KNOWN_TIMES) (by rfl) tt.m_KNOWN_TIMES rfl) aD)) (bF _)) (aF (bL (eS Lp (eW (v:=.ref ad.KNOWN_TIMES) (by rfl) tt.m_KNOWN_TIMES rfl) (pv 0) (fun _ _=>rfl)))) bD)
   Gu),?_⟩
  (try rw [eK]);(try rw [cxK1])
  refine ⟨_,rfl,ad.KNOWN_TIMES,_,rfl,.inr hkt,_,_,rfl,rfl,_,rfl,?_⟩
  rw [hkl]
  refine itP (decide_eq_true (by omega)) ?_
  exact ⟨_,rfl,ad.KNOWN_TIMES,_,_,_,rfl,rfl,hkt,dC (j:=j) (jP (by show j<70;omega)),q⟩
theorem Od:∀ j,j<7->kts.getD j 0*6277101735386680763835789423207666416102355444464034512896+1=((Dt.pr j:Nat):Int):=by decide +kernel
theorem Kj:∀ j,j<7->(kts.getD j 0).natAbs<2 ^ 20:=by decide +kernel
def Ey (K:PySem.W.Frag):Sp:=fun vs H Q _=>∃ (a:Addr) (as:List Addr) (M:List (List Int)) (n:Nat),vs=[.ref a]∧SqL K H a (as.map V.ref)∧dI K H as M∧uJ M n∧2*Dt.pL (M.map (Dt.rs n))<Dt.md 7∧∀ H',aN H H'->Q (.int (Dt.det n (Dt.ent M))) H'
theorem Km {n p:Nat}(hn:n<=64)(hp:p<2 ^ 250):2 ^ 110+n*(p*p)<2 ^ 8000:=by
 have h1:n*(p*p)<=64*(2 ^ 250*2 ^ 250):=Nat.mul_le_mul hn (Nat.mul_le_mul (Nat.le_of_lt hp) (Nat.le_of_lt hp))
 exact Nat.lt_of_le_of_lt (Nat.add_le_add_left h1 _) (by decide +kernel)
theorem uJ.rest {M:List (List Int)}{n p:Nat}(h:uJ M n)(hp:Dt.dH p)(hl:p<2 ^ 250):Em M n p (2 ^ 110) :=
 ⟨h.len,h.row,Nat.le_trans h.sz (by decide),hp,Nat.lt_of_lt_of_le hl (Nat.pow_le_pow_right (by decide) (by decide)),fun r hr x hx=>Nat.le_trans (Dt.Ks (h.row r hr) hx) (h.sm r hr),Km h.sz hl⟩
theorem oW {f:Addr}{fd:FuncData}(F:Fun K "determinant" "determinant" dO f fd)(tt:Txt K mg ad)(C_greatest_of:Cal P w K mg base (CX1 P w) "greatest_of" 1 ["square"] (tO K))(C_determinant_rest:Cal P w K mg base (CX1 P w) "determinant_rest" 2 ["square", "prime"] (yB K))(C_further_times:Cal P w K mg base (CX1 P w) "further_times" 1 ["place", "last"] tD)(C_inverse:Cal P w K mg base (CX1 P w) "inverse" 1 ["number", "prime"] sC) :
  cT P w K mg base (CX1 P w) 3 f fd ["square"] (Ey K):=by
 refine F.okN bI (fun vs H Q E h=>?_) (fun cdv A outer s H vs Q E hr h=>?_)
 ·obtain ⟨a,as,M,n,rfl,_⟩:=h
  rfl
 ·obtain ⟨a,as,M,n,rfl,hA,hR,ok,hlt,q⟩:=h
  have hs:sizeLine=16777216:=sizeLine_eq
  have hdet:=Dt.Kr (M:=M) ok.len
  have hbnd:=ok.part n
  rw [List.take_of_length_le (by rw [ok.len];exact Nat.le_refl _)] at hbnd
  generalize hB:Dt.pL (M.map (Dt.rs n))=B at hlt hdet hbnd
  generalize hDD:Dt.det n (Dt.ent M)=DD at q hdet
  have bB:Bg ((B:Nat):Int):=eU (by rw [Int.natAbs_natCast];exact Nat.le_refl _) hbnd
  refine ⟨_,(aB (aJ (i:=1) bI.nd rfl (Or.inl rfl) (aU C_greatest_of hr bU (aA (pv 0) aD)))
   (aB (aJ (i:=2) bI.nd rfl (Or.inl rfl) (aU C_determinant_rest hr bU (aA (pv 0) (aA (eW (by rfl) tt.g_FIRST_PRIME tt.r_FIRST_PRIME) aD))))
   (aB (aJ (i:=3) bI.nd rfl (Or.inl rfl) (eW (by rfl) tt.g_FIRST_PRIME tt.r_FIRST_PRIME))
   (aB (aJ (i:=4) bI.nd rfl (Or.inl rfl) aG)
   (aB (aJ (i:=5) bI.nd rfl (Or.inl rfl) aG)
   (aB (lD PassesOwn.never (aQ Nz (pv 3) (aL fB aG (pv 1)) (bF _)) (aB (aJ (i:=5) bI.nd rfl (Or.inl rfl) (aU C_further_times hr bU (aA (pv 4) (aA (pv 5) aD))))
   (aB (aJ (i:=4) bI.nd rfl (Or.inl rfl) (aL dR (pv 4) aG))
   (aB (aJ (i:=6) bI.nd rfl (Or.inl rfl) (aL dR (aL fB (pv 5) (eW (by rfl) tt.g_STEP tt.r_STEP)) aG))
   (aB (aJ (i:=7) bI.nd rfl (Or.inl rfl) (aL jE (aU C_determinant_rest hr bU (aA (pv 0) (aA (pv 6) aD))) (pv 2)))
   (aB (aJ (i:=2) bI.nd rfl (Or.inl rfl) (aL dR (pv 2) (aL fB (aL cM (aL fB (pv 7) (aU C_inverse hr bU (aA (pv 3) (aA (pv 6) aD)))) (pv 6)) (pv 3))))
   (aF (aJ (i:=3) bI.nd rfl (Or.inl rfl) (aL fB (pv 3) (pv 6))))))))))
   (aB (cL (aQ lJ (pv 2) (pv 1) (bF _)) (aF (bL (aL jE (pv 2) (pv 3)))) bD)
   (aF (bL (pv 2)))))))))),?_⟩
  (try rw [eK]);(try rw [cxK1])
  refine ⟨_,rfl,a,as,M,n,rfl,hA,hR,ok,fun G1 s1=>?_⟩
  rw [hB]
  refine ⟨_,rfl,a,as,M,n,2305843009213693951,2 ^ 110,rfl,s1.seq hA,hR.on s1,ok.rest Dt.Qa (by decide +kernel),fun res G2 s2 hres hcg=>?_⟩
  rw [hDD] at hcg
  refine ⟨fun m σ G=>∃ (j:Nat) (res times:Int) (v6 v7:Option V),m=7-j∧j<=7∧aN H G∧(0<=res∧res<(Dt.md j:Nat))∧Dt.Cg (Dt.md j:Nat) res DD∧σ=[some (.ref a),some (.int (B:Nat)),some (.int res),some (.int (Dt.md j:Nat)),some (.int (j:Nat)),some (.int times),v6,v7],
   ⟨_,0,res,0,none,none,rfl,by omega,s1.trans s2,hres,hcg,rfl⟩,?_⟩
  rintro m σ G ⟨j,res,times,v6,v7,rfl,hj,sG,hres,hcg,rfl⟩
  refine ⟨_,rfl,_,rfl,_,_,rfl,rfl,⟨eU (n:=2) (by decide) (by decide +kernel),bB⟩,_,_,rfl,rfl,_,rfl,?_⟩
  by_cases hle:Dt.md j<=2*B
  ·refine itP (decide_eq_true (by omega)) ?_
   have hj7:j<7:=by
    rcases Nat.lt_or_ge j 7 with z | z
    ·exact z
    ·rw [show j=7 by omega] at hle
     omega
   obtain ⟨k1,k2,k3,k4⟩:=Dt.Mz j hj7
   have ePr:=Od j hj7
   have hpp:=Dt.Ek hj7
   have hp1:=hpp.1
   have l1:=iF k1 (by decide)
   have l3:=iF k3 (by decide)
   have l4:=iF k4 (by decide)
   have bP:Bg ((Dt.pr j:Nat):Int):=eU (by rw [Int.natAbs_natCast];exact Nat.le_refl _) l1
   have bM:Bg ((Dt.md j:Nat):Int):=eU (by rw [Int.natAbs_natCast];exact Nat.le_refl _) l3
   refine ⟨_,fun σ' H' z=>z,?_⟩
   refine ⟨_,rfl,_,rfl,j,times,rfl,hj7,?_⟩
   refine ⟨_,rfl,_,_,rfl,rfl,?_⟩
   refine ⟨_,rfl,_,_,rfl,rfl,⟨eU (Nat.le_of_lt (Kj j hj7)) (iF (k:=21) (by decide +kernel) (by decide)),eU (n:=2 ^ 200) (by decide +kernel) (iF (k:=201) (by decide +kernel) (by decide))⟩,_,_,rfl,rfl,?_⟩
   refine ⟨_,rfl,_,rfl,a,as,M,n,Dt.pr j,2 ^ 110,congrArg (fun z=>[V.ref a,V.int z]) ePr,sG.seq hA,hR.on sG,ok.rest hpp k1,fun r2 G3 s3 hr2 hc2=>?_⟩
   rw [hDD] at hc2
   refine ⟨_,rfl,_,_,rfl,rfl,?_⟩
   refine ⟨_,rfl,_,rfl,_,rfl,_,rfl,((Dt.md j:Nat):Int),Dt.pr j,congrArg (fun z=>[V.int ((Dt.md j:Nat):Int),V.int z]) ePr,hpp,Nat.lt_of_lt_of_le k1 (Nat.pow_le_pow_right (by decide) (by decide)),(fun z=>k2 (by exact_mod_cast z)),fun inv hi hib=>?_⟩
   have q1:=Int.emod_nonneg ((r2-res)*inv) (show ((Dt.pr j:Nat):Int)≠0 by omega)
   have q2:=Int.emod_lt_of_pos ((r2-res)*inv) (show (0:Int)<((Dt.pr j:Nat):Int) by omega)
   obtain ⟨c1,c2,c3⟩:=Dt.crt (M1:=Dt.md j) (pr:=Dt.pr j) (D:=DD) (res:=res) (r2:=r2) (inv:=inv) (by omega) (by omega) hcg hc2 hi hres
   refine ⟨_,_,rfl,rfl,⟨eU (n:=Dt.md j+Dt.pr j) (by omega) (Nat.lt_of_lt_of_le (Nat.add_lt_add k3 k1) (by decide +kernel)),eU (n:=Dt.pr j) (by omega) l1⟩,_,rfl,_,_,rfl,rfl,(by show (0:Int)<_;rw [ePr];omega),_,rfl,_,_,rfl,rfl,⟨?_,bM⟩,_,_,rfl,rfl,?_⟩
   ·show Bg ((r2-res)*inv % _)
    rw [ePr]
    exact eU (n:=Dt.pr j) (by omega) l1
   refine ⟨_,rfl,_,rfl,_,_,rfl,rfl,⟨bM,by rw [ePr];exact bP⟩,?_⟩
   refine ⟨7-(j+1),by omega,j+1,res+(r2-res)*inv % (Dt.pr j:Nat)*(Dt.md j:Nat),kts.getD j 0,some (.int (kts.getD j 0*6277101735386680763835789423207666416102355444464034512896+1)),some (.int (r2-res)),rfl,by omega,sG.trans s3,⟨c2,c3⟩,c1,?_⟩
   rw [<- ePr,show ((Dt.md (j+1):Nat):Int)=(Dt.md j:Nat)*(kts.getD j 0*6277101735386680763835789423207666416102355444464034512896+1) by rw [ePr];exact Int.natCast_mul ..]
   rfl
  ·refine itN (fun z=>hle (by have:=of_decide_eq_true z;omega)) ?_
   have hfr:=Dt.Cn (M:=Dt.md j) (D:=DD) (res:=res) (bd:=(B:Nat)) (by omega) (by omega) hcg hres
   refine ⟨_,rfl,_,rfl,_,_,rfl,rfl,_,rfl,?_⟩
   by_cases hgt:((B:Nat):Int)<res
   ·rw [if_pos hgt] at hfr
    refine itP (decide_eq_true hgt) ?_
    refine ⟨_,rfl,_,rfl,_,_,rfl,rfl,?_⟩
    rw [<- hfr] at q
    exact q G sG
   ·rw [if_neg hgt] at hfr
    refine itN (fun z=>hgt (of_decide_eq_true z)) ?_
    rw [<- hfr] at q
    exact ⟨_,rfl,q G sG⟩
def oX (words:List (List Nat))(o:List Nat):Int:=((words.countP fun w=>decide (w.drop 1=o):Nat):Int)
def pO (texts:List (List Nat))(t:List Nat)(words:List (List Nat)):List Int:=texts.map fun o=>if o=t then ((words.length:Nat):Int)-oX words t else-oX words o
theorem Ac {words:List (List Nat)}{o:List Nat}:((((words.map fun w=>w.drop 1).map T).countP fun y=>eqV y (T o):Nat):Int)=oX words o:=by
 unfold oX
 rw [List.map_map,List.countP_map]
 congr 2
 funext w
 show (tx (w.drop 1)==tx o)=decide (w.drop 1=o)
 rw [Bool.eq_iff_iff,beq_iff_eq,decide_eq_true_iff]
 exact ⟨fun h=>fU h,fun h=>by rw [h]⟩
def xZ (K:PySem.W.Frag):Sp:=fun vs H Q _=>∃ (a b:Addr) (texts words:List (List Nat)) (t:List Nat),vs=[.ref a,T t,.ref b]∧SqL K H a (texts.map T)∧SqL K H b (words.map T)∧(texts.length<=200∧words.length<=200∧∀ x∈words,1<=x.length∧x.length<=1000)∧∀ D H',H D=none->aN H H'->H' D=some (.lst ((pO texts t words).map V.int))->Q (.ref D) H'
theorem pP {f:Addr}{fd:FuncData}(F:Fun K "choice_row" "choice_row" cY f fd)(tt:Txt K mg ad)(C_end_of:Cal P w K mg base (CX1 P w) "end_of" 1 ["word"] zL):cT P w K mg base (CX1 P w) 2 f fd ["texts", "text", "words"] (xZ K):=by
 refine F.okN jY (fun vs H Q E h=>?_) (fun cdv A outer s H vs Q E hr h=>?_)
 ·obtain ⟨a,b,texts,words,t,rfl,_⟩:=h
  rfl
 ·obtain ⟨a,b,texts,words,t,rfl,hA,hB,⟨h1,h2,h3⟩,q⟩:=h
  have hs:sizeLine=16777216:=sizeLine_eq
  refine ⟨_,(aB (aJ (i:=3) jY.nd rfl (Or.inr rfl) (eR nE rfl (cD (pv 2)) (fun cl C s' H' fp=>(aU C_end_of hr bU (aA (pv 0) aD)))))
   (aF (bL (eR nO rfl (cD (pv 0)) (fun cl C s' H' fp=>(Fj (aQ zQ (pv 0) (pv 2) (bF _)) (aL jE (aM (wW K rfl) (by rfl) tt.b_len PySem.boot_len (aA (pv 4) aD)) (Ef K rfl PySem.F.plainAttrs_list PySem.F.slot_list_count PySem.F.type_list_count (qO K rfl) (pv 4) (aA (pv 2) aD))) (lP iH (Ef K rfl PySem.F.plainAttrs_list PySem.F.slot_list_count PySem.F.type_list_count (qO K rfl) (pv 4) (aA (pv 0) aD))))))))),?_⟩
  (try rw [eK]);(try rw [cxK1])
  refine ⟨_,rfl,b,rfl,⟨_,hB⟩,?_⟩
  refine jZ (fun v=>T ((unT v).drop 1)) (cQ hB) (by rw [List.length_map];omega) (fun v G hv sg N hN=>?_) fun D1 G1 hD1 s1 hd1=>?_
  ·obtain ⟨l,hl,rfl⟩:=List.mem_map.mp hv
   have z:=hN G (aN.refl _)
   rw [fH] at z
   have hx:=h3 l hl
   exact ⟨_,rfl,l,rfl,⟨by omega,by omega⟩,z⟩
  have hd1:G1 D1=some (.lst ((words.map fun w=>w.drop 1).map T)):=by
   rw [hd1,List.map_map,List.map_map]
   refine congrArg (fun l=>some (HO.lst l)) (List.map_congr_left fun m _=>?_)
   show T ((unT (T m)).drop 1)=T (m.drop 1)
   rw [fH]
  refine ⟨_,rfl,a,rfl,⟨_,s1.seq hA⟩,?_⟩
  refine jZ (fun v=>.int (if unT v=t then ((words.length:Nat):Int)-oX words t else-oX words (unT v))) (cQ (s1.seq hA)) (by rw [List.length_map];omega) (fun v G hv sg N hN=>?_) fun D2 G2 hD2 s2 hd2=>?_
  ·obtain ⟨o,ho,rfl⟩:=List.mem_map.mp hv
   have z:=hN G (aN.refl _)
   rw [fH] at z
   have hdG:=sg D1 _ hd1
   refine ⟨_,rfl,_,rfl,_,rfl,_,rfl,_,rfl,?_⟩
   by_cases hot:o=t
   ·rw [if_pos hot] at z
    refine itP (decide_eq_true hot) ?_
    refine ⟨_,rfl,D1,_,rfl,.inl (SqL.of hdG),_,rfl,.inl ⟨rfl,_,SqL.of hdG⟩,_,rfl,D1,_,_,rfl,rfl,SqL.of hdG,jA _,rfl,_,_,rfl,rfl,?_⟩
    rw [Ac,List.length_map,List.length_map]
    exact z
   ·rw [if_neg hot] at z
    refine itN (fun y=>hot (of_decide_eq_true y)) ?_
    refine ⟨_,rfl,.inl ⟨rfl,_,SqL.of hdG⟩,_,rfl,D1,_,_,rfl,rfl,SqL.of hdG,jA _,rfl,_,rfl,?_⟩
    rw [Ac]
    exact z
  have hD0:H D2=none:=by
   cases e:H D2 with
   | none=>rfl
   | some o=>have:=s1 D2 o e;rw [hD2] at this;cases this
  refine q D2 G2 hD0 (s1.trans s2) ?_
  rw [hd2]
  unfold pO
  rw [List.map_map,List.map_map]
  refine congrArg (fun l=>some (HO.lst l)) (List.map_congr_left fun m _=>?_)
  show V.int (if unT (T m)=t then _ else _)=V.int (if m=t then _ else _)
  rw [fH]
def wC (ms:List (List Nat))(p:List Nat):List (List Nat):=ms.filter fun l=>decide (beg l=p)
def wQ (C:Addr):Sp:=fun vs H Q _=>∃ (x tp:Addr) (n:Nat) (ms:List (List Nat)) (p:List Nat),vs=[.ref x,T p]∧mW C H x tp n ms∧kB ms n∧∀ D H',H D=none->aN H H'->H' D=some (.lst ((wC ms p).map T))->Q (.ref D) H'
theorem Hy {f:Addr}{fd:FuncData}(F:Fun K "outs" "outs" kH f fd)(tt:Txt K mg ad)(C_begin_of:Cal P w K mg base (CX1 P w) "begin_of" 1 ["word"] nU):cT P w K mg base (CX1 P w) 2 f fd ["web", "piece"] (wQ ad.Web):=by
 refine F.okN Je (fun vs H Q E h=>?_) (fun cdv A outer s H vs Q E hr h=>?_)
 ·obtain ⟨x,tp,n,ms,p,rfl,_⟩:=h
  rfl
 ·obtain ⟨x,tp,n,ms,p,rfl,hW,hok,q⟩:=h
  have hs:sizeLine=16777216:=sizeLine_eq
  obtain ⟨⟨dx,hx⟩,htp⟩:=id hW
  obtain ⟨hne,h64,hn,hxs,hnd⟩:=id hok
  refine ⟨_,(aF (bL (Cy Br rfl (xR (yK (pv 0) rfl)) (fun cl C s' H' fp=>(aQ zQ (aU C_begin_of hr bU (aA (pv 0) aD)) (pv 2) (bF _))) (fun cl C s' H' fp=>(pv 0))))),?_⟩
  (try rw [eK]);(try rw [cxK1])
  refine ⟨_,rfl,x,ad.Web,dx,_,_,rfl,hx,tt.cl_Web,tt.na_Web_words,yD _ _,tp,rfl,⟨_,SqT.of htp⟩,?_⟩
  refine Go (fun v=>decide (beg (unT v)=p)) (fun v=>v) (lU (SqT.of htp)) (by rw [List.length_map];omega) (fun v H2 hv s2 N hN=>?_) (fun v H2 hv hp s2 N hN=>?_) fun D1 H2 hD1 s2 hd2=>?_
  ·obtain ⟨l,hl,rfl⟩:=List.mem_map.mp hv
   have hll:=hxs l hl
   have z:=hN H2 (aN.refl _)
   rw [fH] at z
   exact ⟨_,rfl,l,rfl,⟨by omega,by omega⟩,_,rfl,_,rfl,_,rfl,_,rfl,z⟩
  ·exact ⟨_,rfl,hN H2 (aN.refl _)⟩
  rw [show (ms.map T).filter (fun v=>decide (beg (unT v)=p))=(ms.filter fun l=>decide (beg l=p)).map T from kE (p:=fun l=>decide (beg l=p)) ms,List.map_id'] at hd2
  exact q D1 H2 hD1 s2 hd2
inductive aY (H:Hp)(g:List Nat->List (List Nat)):List (List Nat)->List (Key×V)->Prop
 | nil:aY H g [] []
 | cons {o:List Nat} {a:Addr} {ls:List (List Nat)} {kvs:List (Key×V)}:H a=some (.lst ((g o).map T))->aY H g ls kvs->aY H g (o::ls) ((Sum.inr (tx o),.ref a)::kvs)
theorem aY.keys {H:Hp}{g:List Nat->List (List Nat)}{ls:List (List Nat)}{kvs:List (Key×V)}(h:aY H g ls kvs):kvs.map (·.1)=ls.map fun t=>Sum.inr (tx t):=by
 induction h with
 | nil=>rfl
 | cons _ _ ih=>rw [List.map_cons,List.map_cons,ih]
theorem aY.len {H:Hp}{g:List Nat->List (List Nat)}{ls:List (List Nat)}{kvs:List (Key×V)}(h:aY H g ls kvs):kvs.length=ls.length:=by
 have:=congrArg List.length h.keys
 rwa [List.length_map,List.length_map] at this
theorem aY.mono {H H':Hp}{g:List Nat->List (List Nat)}{ls:List (List Nat)}{kvs:List (Key×V)}(s:aN H H')(h:aY H g ls kvs):aY H' g ls kvs:=by
 induction h with
 | nil=>exact .nil
 | cons e _ ih=>exact .cons (s _ _ e) ih
theorem aY.updD {H:Hp}{g:List Nat->List (List Nat)}{ls:List (List Nat)}{kvs k:List (Key×V)}{D:Addr}{o:HO}(hd:H D=some (.dK k))(h:aY H g ls kvs):aY (upd H D o) g ls kvs:=by
 induction h with
 | nil=>exact .nil
 | @cons _ a _ _ e _ ih =>
  have hne:a≠D:=fun z=>by rw [z,hd] at e;cases e
  exact .cons (by rw [aI hne];exact e) ih
theorem aY.snoc {H:Hp}{g:List Nat->List (List Nat)}{ls:List (List Nat)}{kvs:List (Key×V)}{o:List Nat}{a:Addr}(h:aY H g ls kvs)(e:H a=some (.lst ((g o).map T))):aY H g (ls++[o]) (kvs++[(Sum.inr (tx o),.ref a)]):=by
 induction h with
 | nil=>exact .cons e .nil
 | cons e1 _ ih=>exact .cons e1 ih
theorem aY.put {H:Hp}{g:List Nat->List (List Nat)}{ls:List (List Nat)}{kvs:List (Key×V)}{o:List Nat}{a:Addr}(h:aY H g ls kvs)(ho:o∉ls)(e:H a=some (.lst ((g o).map T))):aY H g (ls++[o]) (fG kvs (Sum.inr (tx o)) (.ref a)):=by
 have hn:¬ (kvs.any fun kv=>decide (kv.1=Sum.inr (tx o)))=true:=fun z=>by
  obtain ⟨kv,h1,h2⟩:=List.any_eq_true.mp z
  have h3:kv.1∈kvs.map (·.1):=List.mem_map_of_mem h1
  rw [h.keys,of_decide_eq_true h2] at h3
  obtain ⟨t,h4,h5⟩:=List.mem_map.mp h3
  have h6:t=o:=fU (Sum.inr.inj h5)
  exact ho (h6▸h4)
 unfold fG
 rw [if_neg hn]
 exact h.snoc e
theorem aY.get {H:Hp}{g:List Nat->List (List Nat)}{ls:List (List Nat)}{kvs:List (Key×V)}{o:List Nat}(h:aY H g ls kvs)(ho:o∈ls):∃ a,fY kvs (Sum.inr (tx o))=some (.ref a)∧H a=some (.lst ((g o).map T)):=by
 induction h with
 | nil=>cases ho
 | @cons o' a _ _ e _ ih =>
  by_cases hoo:o'=o
  ·subst hoo
   exact ⟨a,iZ rfl,e⟩
  ·obtain ⟨b,h1,h2⟩:=ih ((List.mem_cons.mp ho).resolve_left (Ne.symm hoo))
   exact ⟨b,by rw [gO (fun z=>hoo (fU (Sum.inr.inj z)))];exact h1,h2⟩
def sP (C:Addr)(ad:Adr):Sp:=fun vs H Q E=>∃ (x tp:Addr) (n:Nat) (ms:List (List Nat)) (p:List Nat),vs=[.ref x,T p]∧mW C H x tp n ms∧kB ms n∧(¬ IsP ms p->∀ H',aN H H'->E (.ref ad.NoSuch) none H') ∧
 (IsP ms p->∀ (D:Addr) (ps:List (List Nat)) (kvs:List (Key×V)) (H':Hp),H D=none->aN H H'->H' D=some (.dK kvs)->aY H' (wC ms) (ps.filter fun o=>decide (o≠p)) kvs->ps.length<=128->ps.Pairwise (fun a b=>¬ b<a)->ps.Nodup->(∀ z,z∈ps↔IsP ms z)->Q (.ref D) H')
theorem uV {H G:Hp}{D:Addr}(s:aN H G)(h:G D=none):H D=none:=by
 cases e:H D with
 | none=>rfl
 | some o=>exact absurd ((s D o e).symm.trans h) (fun z=>nomatch z)
theorem pG {f:Addr}{fd:FuncData}(F:Fun K "ways_toward" "ways_toward" dQ f fd)(tt:Txt K mg ad)(C_pieces:Cal P w K mg base (CX1 P w) "pieces" 2 ["web"] (oI ad.Web))(C_outs:Cal P w K mg base (CX1 P w) "outs" 2 ["web", "piece"] (wQ ad.Web)) :
  cT P w K mg base (CX1 P w) 3 f fd ["web", "piece"] (sP ad.Web ad):=by
 refine F.okX fD (fun vs H Q E h=>?_) (fun cdv A outer s H vs Q E hr h=>?_)
 ·obtain ⟨x,tp,n,ms,p,rfl,_⟩:=h
  rfl
 ·obtain ⟨x,tp,n,ms,p,rfl,hW,hok,xn,q⟩:=h
  have hs:sizeLine=16777216:=sizeLine_eq
  obtain ⟨⟨dx,hx⟩,htp⟩:=id hW
  obtain ⟨hne,h64,hn,hxs,hnd⟩:=id hok
  refine ⟨_,(aB (aJ (i:=2) fD.nd rfl (Or.inl rfl) (aU C_pieces hr bU (aA (pv 0) aD)))
   (aB (cL (aQ iD (pv 1) (pv 2) (by with_unfolding_all rfl)) (aF (fC (E:=fun cls H'=>E cls none H') tt.x_NoSuch rfl (fun _ _ _ _ _ _ _ I hx q=>iB I hx q) (aA (cS [116,104,101,32,119,101,98,32,104,97,115,32,110,111,32,115,117,99,104,32,112,105,101,99,101] (by decide +kernel)) aD))) bD)
   (aB (aJ (i:=3) fD.nd rfl (Or.inl rfl) iW)
   (aB (dA PassesOwn.leaving rfl (cD (pv 2)) (bS (i:=4) fD.nd rfl (Or.inl rfl)) (aF (cL (aQ nW (pv 4) (pv 1) (bF _)) (aF (lB (eY hr) (pv 3) (pv 4) (aU C_outs hr bU (aA (pv 0) (aA (pv 4) aD))) rfl)) bD)))
   (aF (bL (pv 3))))))),?_⟩
  (try rw [eK]);(try rw [cxK1])
  refine ⟨_,rfl,x,tp,n,ms,rfl,hW,hok,fun D1 ps H1 hD1 s1 hd1 hpw hpn hpm=>?_⟩
  have hlen:ps.length<=128:=by
   have z:ps.length<=(ms.map beg++ms.map fun w=>w.drop 1).length:=hpn.length_le_of_subset fun z hz=>by
    obtain ⟨w,hw,h | h⟩:=(hpm z).mp hz
    ·exact List.mem_append_left _ (h▸List.mem_map_of_mem hw)
    ·exact List.mem_append_right _ (h▸List.mem_map_of_mem hw)
   rw [List.length_append,List.length_map,List.length_map] at z
   omega
  refine ⟨_,rfl,_,rfl,D1,_,rfl,.inl (SqL.of hd1),rfl,jA ps,_,rfl,?_⟩
  by_cases hp:p∈ps
  ·refine itN (by rw [uM,decide_eq_true hp];exact Bool.false_ne_true) ?_
   refine fun D hD=>?_
   have hD0:=uV s1 hD
   have hd1':upd H1 D (.dK []) D1=some (.lst (ps.map T)):=by rw [aI (aK hd1 hD)];exact hd1
   refine ⟨_,rfl,D1,rfl,⟨_,SqL.of hd1'⟩,?_⟩
   refine dS (K:=K) (a:=D1) (xs:=ps.map T) (fun i σ H3=>aN H1 H3∧∃ (kvs:List (Key×V)) (v4:Option V),H3 D=some (.dK kvs)∧aY H3 (wC ms) ((ps.take i).filter fun o=>decide (o≠p)) kvs∧σ=[some (.ref x),some (T p),some (.ref D1),some (.ref D),v4]) ⟨aH hD,[],none,aC,.nil,rfl⟩ (fun i σ H3 _ h=>SqL.of (h.1 D1 _ hd1)) ?_ ?_
   ·rintro i y σ H3 hi ⟨s3,kvs,v4,hd3,hwa,rfl⟩
    obtain ⟨o,ho,rfl⟩:∃ o,ps[i]?=some o∧T o=y:=by rw [List.getElem?_map] at hi;exact Option.map_eq_some_iff.mp hi
    have htk:ps.take (i+1)=ps.take i++[o]:=by rw [List.take_add_one,ho];rfl
    refine ⟨_,rfl,_,rfl,_,rfl,_,rfl,_,rfl,?_⟩
    by_cases hop:o=p
    ·refine itN (by rw [decide_eq_true hop];exact Bool.false_ne_true) ?_
     refine ⟨s3,kvs,some (T o),hd3,?_,rfl⟩
     rw [htk,List.filter_append,List.filter_cons_of_neg (by simp [hop])]
     simpa using hwa
    ·refine itP (by rw [decide_eq_false hop];rfl) ?_
     refine ⟨_,rfl,_,rfl,x,tp,n,ms,o,rfl,⟨⟨dx,s3 x _ (s1 x _ hx)⟩,s3 tp _ (s1 tp _ htp)⟩,hok,fun D4 H4 hD4 s4 hd4=>?_⟩
     refine ⟨_,rfl,_,rfl,D,_,rfl,tY.k (k:=Sum.inr (tx o)) (s4 D _ hd3) (by rw [hwa.len];have:=List.length_filter_le (fun o=>decide (o≠p)) (ps.take i);rw [List.length_take] at this;omega),?_⟩
     have hno:o∉(ps.take i).filter fun o=>decide (o≠p):=fun z=>by
      have z1:=(List.mem_filter.mp z).1
      have nd:(ps.take i++[o]).Nodup:=htk▸hpn.sublist (List.take_sublist (i+1) ps)
      exact (List.nodup_append.mp nd).2.2 o z1 o (List.mem_singleton.mpr rfl) rfl
     have hne4:D4≠D:=fun z=>by rw [z,hd3] at hD4;cases hD4
     refine ⟨fun b ob e=>?_,_,some (T o),aC,?_,rfl⟩
     ·rw [aI (aK e hD)]
      exact s4 b ob (s3 b ob e)
     ·rw [htk,List.filter_append,List.filter_cons_of_pos (by simp [hop])]
      exact ((hwa.mono s4).put hno hd4).updD (s4 D _ hd3)
   ·rintro σ H3 ⟨s3,kvs,v4,hd3,hwa,rfl⟩
    rw [List.length_map,List.take_length] at hwa
    exact ⟨_,rfl,q ((hpm p).mp hp) D ps kvs H3 hD0 (s1.trans s3) hd3 hwa hlen hpw hpn hpm⟩
  ·refine itP (by rw [uM,decide_eq_false hp];rfl) ?_
   exact ⟨(by show 1<=sizeLine;omega),xn (fun z=>hp ((hpm p).mpr z)) H1 s1⟩
def gY (ls:List (List Nat))(g:List Nat->List (List Nat)):List (List Int):=ls.map fun t=>pO ls t (g t)
def jR (K:PySem.W.Frag):Sp:=fun vs H Q _=>∃ (a:Addr) (ls:List (List Nat)) (kvs:List (Key×V)) (g:List Nat->List (List Nat)),vs=[.ref a]∧H a=some (.dK kvs)∧aY H g ls kvs∧(ls.length<=64∧∀ o∈ls,(g o).length<=200∧∀ x∈g o,1<=x.length∧x.length<=1000) ∧
 uJ (gY ls g) ls.length∧2*Dt.pL ((gY ls g).map (Dt.rs ls.length))<Dt.md 7∧∀ H',aN H H'->Q (.int (Dt.det ls.length (Dt.ent (gY ls g)))) H'
theorem kN {f:Addr}{fd:FuncData}(F:Fun K "choices_counted" "choices_counted" bZ f fd)(tt:Txt K mg ad)(C_determinant:Cal P w K mg base (CX1 P w) "determinant" 3 ["square"] (Ey K))(C_choice_row:Cal P w K mg base (CX1 P w) "choice_row" 2 ["texts", "text", "words"] (xZ K)) :
  cT P w K mg base (CX1 P w) 4 f fd ["ways"] (jR K):=by
 refine F.okN gF (fun vs H Q E h=>?_) (fun cdv A outer s H vs Q E hr h=>?_)
 ·obtain ⟨a,ls,kvs,g,rfl,_⟩:=h
  rfl
 ·obtain ⟨a,ls,kvs,g,rfl,hd,hwa,⟨h64,hg⟩,hsq,hpl,q⟩:=h
  have hs:sizeLine=16777216:=sizeLine_eq
  refine ⟨_,(aB (aJ (i:=1) gF.nd rfl (Or.inr rfl) (eF (wM rfl) (by rfl) tt.b_list (by decide +kernel) (aA (pv 0) aD)))
   (aF (bL (aU C_determinant hr bU (aA (eR iX rfl (cD (pv 1)) (fun cl C s' H' fp=>(aU C_choice_row hr bU (aA (pv 2) (aA (pv 0) (aA (fZ (eY hr) (pv 1) (pv 0) (fun _ _=>rfl)) aD)))))) aD))))),?_⟩
  (try rw [eK]);(try rw [cxK1])
  refine ⟨_,rfl,a,ls,kvs,rfl,hd,hwa.keys,fun D1 hD1=>?_⟩
  have s1:=aH (o:=.lst (ls.map T)) hD1
  refine ⟨_,rfl,D1,rfl,⟨_,SqL.of aC⟩,?_⟩
  refine Lo (K:=K) (fun v=>pO ls (unT v) (g (unT v))) (cQ (SqL.of aC)) (by rw [List.length_map];omega) (fun v G hv sg N hN=>?_) fun D2 bs G2 hD2 s2 hd2 hne2 hR2=>?_
  ·obtain ⟨t,ht,rfl⟩:=List.mem_map.mp hv
   rw [fH] at hN
   obtain ⟨b,hb1,hb2⟩:=((hwa.mono s1).mono sg).get ht
   have hget:lH G a (T t) (some (.ref b)):=by rw [<- hb1];exact lH.k (k:=Sum.inr (tx t)) (sg a _ (s1 a _ hd))
   have hgt:=hg t ht
   exact ⟨_,rfl,_,rfl,_,rfl,_,rfl,a,_,rfl,hget,D1,b,ls,g t,t,rfl,SqL.of (sg D1 _ aC),SqL.of hb2,⟨by omega,hgt.1,hgt.2⟩,fun D H' hD s' hd'=>hN D H' s' hD hd'⟩
  rw [show (ls.map T).map (fun v=>pO ls (unT v) (g (unT v)))=gY ls g from by
   unfold gY
   rw [List.map_map]
   refine List.map_congr_left fun m _=>?_
   show pO ls (unT (T m)) (g (unT (T m)))=_
   rw [fH]] at hR2
  exact ⟨D2,bs,gY ls g,ls.length,rfl,SqL.of hd2,hR2,hsq,hpl,fun H' s'=>q H' ((s1.trans s2).trans s')⟩
theorem zG {words:List (List Nat)}{o:List Nat}:(oX words o).natAbs<=words.length:=by
 unfold oX
 have:=List.countP_le_length (p:=fun w=>decide (w.drop 1=o)) (l:=words)
 omega
theorem En {texts words:List (List Nat)}{t:List Nat}{x:Int}(hx:x∈pO texts t words):x.natAbs<=words.length:=by
 obtain ⟨o,_,rfl⟩:=List.mem_map.mp hx
 have h1:=zG (words:=words) (o:=t)
 have h2:=zG (words:=words) (o:=o)
 have h3:0<=oX words t:=Int.natCast_nonneg _
 show (if o=t then ((words.length:Nat):Int)-oX words t else-oX words o).natAbs<=_
 split <;> omega
theorem Gw {f:Nat->Nat}{c:Nat}:∀ {n:Nat},(∀ j,j<n->f j<=c)->Dt.sN n f<=n*c:=fun {n} h=>by
 have h1:Dt.sN n f<=Dt.sN n fun _=>1*c:=Dt.Eg fun j hj=>by rw [Nat.one_mul];exact h j hj
 have h2:∀ n:Nat,Dt.sN n (fun _=>1)=n:=fun n=>by
  induction n with
  | zero=>rfl
  | succ n ih=>show Dt.sN n (fun _=>1)+1=n+1;rw [ih]
 rw [Dt.wY,h2] at h1
 exact h1
theorem lN {ls:List (List Nat)}{g:List Nat->List (List Nat)}(h64:ls.length<=64)(hg:∀ o∈ls,(g o).length<=64):uJ (gY ls g) ls.length∧2*Dt.pL ((gY ls g).map (Dt.rs ls.length))<Dt.md 7:=by
 have hrow:∀ r∈gY ls g,Dt.rs ls.length r<=4096:=fun r hr=>by
  obtain ⟨t,ht,rfl⟩:=List.mem_map.mp hr
  have h1:Dt.rs ls.length (pO ls t (g t))<=ls.length*64:=Gw fun j hj=>by
   have hl:j<(pO ls t (g t)).length:=by unfold pO;rw [List.length_map];exact hj
   rw [List.getD_eq_getElem?_getD,List.getElem?_eq_getElem hl]
   exact Nat.le_trans (En (List.getElem_mem hl)) (hg t ht)
  omega
 have hlen:(gY ls g).length=ls.length:=List.length_map ..
 refine ⟨⟨hlen,fun r hr=>?_,h64,fun r hr=>Nat.le_trans (hrow r hr) (by decide)⟩,?_⟩
 ·obtain ⟨t,_,rfl⟩:=List.mem_map.mp hr
  exact List.length_map ..
 ·have h1:=Dt.Dz (R:=4096) (l:=(gY ls g).map (Dt.rs ls.length)) fun x hx=>by
   obtain ⟨r,hr,rfl⟩:=List.mem_map.mp hx
   exact hrow r hr
  rw [List.length_map,hlen] at h1
  have h2:4096 ^ ls.length<=4096 ^ 64:=Nat.pow_le_pow_right (by decide) h64
  have h3:2*4096 ^ 64<Dt.md 7:=by decide +kernel
  exact Nat.lt_of_le_of_lt (Nat.mul_le_mul_left 2 (Nat.le_trans h1 h2)) h3
def wV (C:Addr)(ad:Adr):Sp:=fun vs H Q E=>∃ (x tp:Addr) (n:Nat) (ms:List (List Nat)) (p:List Nat),vs=[.ref x,T p]∧mW C H x tp n ms∧kB ms n∧ms.length<=32∧(¬ IsP ms p->∀ H',aN H H'->E (.ref ad.NoSuch) none H') ∧
 (IsP ms p->∀ (ps:List (List Nat)) (H':Hp),aN H H'->ps.length<=64->ps.Pairwise (fun a b=>¬ b<a)->ps.Nodup->(∀ z,z∈ps↔IsP ms z)->Q (.int (Dt.det (ps.filter fun o=>decide (o≠p)).length (Dt.ent (gY (ps.filter fun o=>decide (o≠p)) (wC ms))))) H')
theorem pW {f:Addr}{fd:FuncData}(F:Fun K "tree_count" "tree_count" eG f fd)(tt:Txt K mg ad)(C_choices_counted:Cal P w K mg base (CX1 P w) "choices_counted" 4 ["ways"] (jR K))(C_ways_toward:Cal P w K mg base (CX1 P w) "ways_toward" 3 ["web", "piece"] (sP ad.Web ad)) :
  cT P w K mg base (CX1 P w) 5 f fd ["web", "piece"] (wV ad.Web ad):=by
 refine F.okX pQ (fun vs H Q E h=>?_) (fun cdv A outer s H vs Q E hr h=>?_)
 ·obtain ⟨x,tp,n,ms,p,rfl,_⟩:=h
  rfl
 ·obtain ⟨x,tp,n,ms,p,rfl,hW,hok,h32,xn,q⟩:=h
  have hs:sizeLine=16777216:=sizeLine_eq
  obtain ⟨hne,h64,hn,hxs,hnd⟩:=id hok
  refine ⟨_,(aF (bL (aU C_choices_counted hr bU (aA (aU C_ways_toward hr oT (aA (pv 0) (aA (pv 1) aD))) aD)))),?_⟩
  (try rw [eK]);(try rw [cxK1])
  refine ⟨_,rfl,_,rfl,x,tp,n,ms,p,rfl,hW,hok,xn,fun hip D ps kvs H1 hD s1 hd1 hwa _ hpw hpn hpm=>?_⟩
  have hlen:ps.length<=64:=by
   have z:ps.length<=(ms.map beg++ms.map fun w=>w.drop 1).length:=hpn.length_le_of_subset fun z hz=>by
    obtain ⟨w,hw,h | h⟩:=(hpm z).mp hz
    ·exact List.mem_append_left _ (h▸List.mem_map_of_mem hw)
    ·exact List.mem_append_right _ (h▸List.mem_map_of_mem hw)
   rw [List.length_append,List.length_map,List.length_map] at z
   omega
  have hfl:(ps.filter fun o=>decide (o≠p)).length<=64:=Nat.le_trans (List.length_filter_le ..) hlen
  have hout:∀ o,(wC ms o).length<=64:=fun o=>Nat.le_trans (List.length_filter_le ..) h64
  obtain ⟨hsq,hpl⟩:=lN (g:=wC ms) hfl fun o _=>hout o
  refine ⟨D,_,kvs,wC ms,rfl,hd1,hwa,⟨hfl,fun o _=>⟨by have:=hout o;omega,fun y hy=>?_⟩⟩,hsq,hpl,fun H' s'=>q hip ps H' (s1.trans s') hlen hpw hpn hpm⟩
  have:=(hxs y (List.mem_filter.mp hy).1).1
  omega
def cKs (ls:List (List Nat))(cw:List Nat->List Nat):List (Key×V):=ls.map fun t=>(Sum.inr (tx t),T (cw t))
theorem sV {ls:List (List Nat)}{cw:List Nat->List Nat}:(cKs ls cw).length=ls.length:=by unfold cKs;rw [List.length_map]
theorem nX {t:List Nat}{cw:List Nat->List Nat}:∀ {ls:List (List Nat)},fY (cKs ls cw) (Sum.inr (tx t))=if t∈ls then some (T (cw t)) else none
 | []=>by simp [cKs,fY]
 | l::ls=>by
  have ih:=@nX t cw ls
  by_cases h:l=t
  ·subst h
   rw [if_pos (List.mem_cons_self ..)]
   exact iZ rfl
  ·show fY ((Sum.inr (tx l),T (cw l))::cKs ls cw) _=_
   rw [gO (fun z=>h (fU (Sum.inr.inj z))),ih]
   by_cases h2:t∈ls
   ·rw [if_pos h2,if_pos (List.mem_cons_of_mem _ h2)]
   ·rw [if_neg h2,if_neg (fun z=>(List.mem_cons.mp z).elim (fun e=>h e.symm) h2)]
def stT (ls:List (List Nat))(cw:List Nat->List Nat)(t:List Nat):List Nat:=if t∈ls then (cw t).drop 1 else t
def itT (ls:List (List Nat))(cw:List Nat->List Nat):Nat->List Nat->List Nat
 | 0,t=>t
 | k+1,t=>stT ls cw (itT ls cw k t)
def eM (ls:List (List Nat))(cw:List Nat->List Nat):Bool:=ls.all fun t=>decide (itT ls cw ls.length t∉ls)
def tV:Sp:=fun vs H Q _=>∃ (a:Addr) (ls:List (List Nat)) (cw:List Nat->List Nat),vs=[.ref a]∧H a=some (.dK (cKs ls cw))∧(ls.length<=1000∧∀ t∈ls,1<=(cw t).length∧(cw t).length<=1000)∧Q (.bl (eM ls cw)) H
theorem qC {f:Addr}{fd:FuncData}(F:Fun K "_law_comes" "_law_comes" eB f fd)(tt:Txt K mg ad):cT P w K mg base (CX1 P w) 1 f fd ["chosen"] tV:=by
 refine F.okN eN (fun vs H Q E h=>?_) (fun cdv A outer s H vs Q E hr h=>?_)
 ·obtain ⟨a,ls,cw,rfl,_⟩:=h
  rfl
 ·obtain ⟨a,ls,cw,rfl,hd,⟨hl,hw⟩,q⟩:=h
  have hs:sizeLine=16777216:=sizeLine_eq
  refine ⟨_,(aB (dA PassesOwn.never rfl (Ab (pv 0)) (bS (i:=1) eN.nd rfl (Or.inl rfl)) (aB (aJ (i:=2) eN.nd rfl (Or.inl rfl) (pv 1))
   (aB (dA PassesOwn.never rfl (gC (by rfl) tt.b_range (aA (aM Bn (by rfl) tt.b_len PySem.boot_len (aA (pv 0) aD)) aD)) (bS (i:=3) eN.nd rfl (Or.inl rfl)) (aF (cL (wX (Dd (eY hr) (pv 2) (pv 0))) (aF (aJ (i:=2) eN.nd rfl (Or.inl rfl) (bE kJ (fZ (eY hr) (pv 0) (pv 2) (fun _ _=>rfl)) (bQ aG) bT))) bD)))
   (aF (cL (wX (Dd (eY hr) (pv 2) (pv 0))) (aF (bL (pF zW))) bD)))))
   (aF (bL (pF zW)))),?_⟩
  (try rw [eK]);(try rw [cxK1])
  refine ⟨_,rfl,a,_,rfl,hd,fun o=>?_⟩
  have hfr:upd H a (.frz o (.dK (cKs ls cw))) a=some (.frz o (.dK (cKs ls cw))):=aC
  have back:upd (upd H a (.frz o (.dK (cKs ls cw)))) a (.dK (cKs ls cw))=H:=by
   rw [zX]
   funext b
   by_cases hb:b=a
   ·subst hb
    rw [aC,hd]
   ·rw [aI hb]
  have hget:∀ t:List Nat,lH (upd H a (.frz o (.dK (cKs ls cw)))) a (T t) (if t∈ls then some (T (cw t)) else none):=fun t=>by
   rw [<- nX]
   exact .inl ⟨cKs ls cw,Sum.inr (tx t),.inr ⟨o,hfr⟩,rfl,rfl⟩
  refine uH (fun i σ H2=>H2=upd H a (.frz o (.dK (cKs ls cw)))∧∃ (v1 v2 v3:Option V),((ls.take i).all fun t=>decide (itT ls cw ls.length t∉ls))=true∧σ=[some (.ref a),v1,v2,v3]) ⟨rfl,none,none,none,rfl,rfl⟩ (fun i σ H2 _ h=>by rw [h.1];exact hfr) ?_ ?_
  ·rintro i kv σ H2 hi ⟨rfl,v1,v2,v3,hall,rfl⟩
   obtain ⟨t,ht,rfl⟩:∃ t,ls[i]?=some t∧(Sum.inr (tx t),T (cw t))=kv:=by unfold cKs at hi;rw [List.getElem?_map] at hi;exact Option.map_eq_some_iff.mp hi
   have htk:ls.take (i+1)=ls.take i++[t]:=by rw [List.take_add_one,ht];rfl
   refine ⟨_,rfl,_,rfl,a,_,rfl,.inr ⟨o,hfr⟩,_,rfl,?_⟩
   rw [sV]
   refine ⟨(by omega),(by omega),?_⟩
   refine gB (fun j σ H3=>H3=upd H a (.frz o (.dK (cKs ls cw)))∧∃ (v3:Option V),σ=[some (.ref a),some (T t),some (T (itT ls cw j t)),v3]) ⟨rfl,v3,rfl⟩ ?_ ?_
   ·rintro j σ H3 hj ⟨rfl,v3,rfl⟩
    refine ⟨_,rfl,_,rfl,a,_,rfl,hget _,_,rfl,?_⟩
    by_cases hm:itT ls cw j t∈ls
    ·have hwl:=hw _ hm
     refine itP (by rw [if_pos hm];rfl) ?_
     refine ⟨_,rfl,_,rfl,a,_,rfl,(by have g:=hget (itT ls cw j t);rw [if_pos hm] at g;exact g),_,rfl,_,rfl,(by omega),?_⟩
     rw [show gG (cw (itT ls cw j t)) (some 1) none=(cw (itT ls cw j t)).drop 1 from gU (k:=1) hwl.1]
     refine ⟨rfl,some (.int (0+(j:Int))),?_⟩
     show _=[_,_,some (T (stT ls cw (itT ls cw j t))),_]
     unfold stT
     rw [if_pos hm]
     rfl
    ·refine itN (by rw [if_neg hm];exact Bool.false_ne_true) ?_
     refine ⟨rfl,some (.int (0+(j:Int))),?_⟩
     show _=[_,_,some (T (stT ls cw (itT ls cw j t))),_]
     unfold stT
     rw [if_neg hm]
     rfl
   ·rintro σ H3 ⟨rfl,v3,rfl⟩
    rw [Int.toNat_natCast]
    refine ⟨_,rfl,_,rfl,a,_,rfl,hget _,_,rfl,?_⟩
    by_cases hm:itT ls cw ls.length t∈ls
    ·refine itP (by rw [if_pos hm];rfl) ?_
     refine ⟨a,o,_,_,hfr,hd,?_⟩
     rw [back]
     have e:eM ls cw=false:=by
      cases hc:eM ls cw with
      | false=>rfl
      | true=>exact absurd hm (of_decide_eq_true (List.all_eq_true.mp hc t (List.mem_of_getElem? ht)))
     rw [e] at q
     exact q
    ·refine itN (by rw [if_neg hm];exact Bool.false_ne_true) ?_
     refine ⟨rfl,_,_,_,?_,rfl⟩
     rw [htk,List.all_append,hall]
     simp [hm]
  ·rintro σ H2 ⟨rfl,v1,v2,v3,hall,rfl⟩
   rw [sV,List.take_length] at hall
   refine ⟨a,o,_,_,hfr,hd,?_⟩
   rw [back]
   have e:eM ls cw=true:=hall
   rw [e] at q
   exact q
def Kp (D:Addr)(H H':Hp):Prop:=∀ b o,b≠D->H b=some o->H' b=some o
theorem Ap {H:Hp}{g:List Nat->List (List Nat)}{ls:List (List Nat)}{kvs:List (Key×V)}(h:aY H g ls kvs){o:List Nat}(ho:o∉ls):fY kvs (Sum.inr (tx o))=none:=by
 induction h with
 | nil=>rfl
 | @cons o' a _ _ e _ ih =>
  rw [gO (fun z=>ho (by rw [fU (Sum.inr.inj z)];exact List.mem_cons_self ..))]
  exact ih fun z=>ho (List.mem_cons_of_mem _ z)
theorem aY.cong {H:Hp}{g g':List Nat->List (List Nat)}{ls:List (List Nat)}{kvs:List (Key×V)}(h:aY H g ls kvs)(e:∀ t∈ls,g t=g' t):aY H g' ls kvs:=by
 induction h with
 | nil=>exact .nil
 | @cons o a _ _ e1 _ ih=>exact .cons (by rw [<- e o (List.mem_cons_self ..)];exact e1) (ih fun t ht=>e t (List.mem_cons_of_mem _ ht))
theorem aY.repl {H:Hp}{g:List Nat->List (List Nat)}{ls:List (List Nat)}{kvs:List (Key×V)}{o:List Nat}{a:Addr}{new:List (List Nat)}(h:aY H g ls kvs)(nd:ls.Nodup)(ho:o∈ls)(e:H a=some (.lst (new.map T))) :
  aY H (fun x=>if x=o then new else g x) ls (fG kvs (Sum.inr (tx o)) (.ref a)):=by
 have hy:(kvs.any fun kv=>decide (kv.1=Sum.inr (tx o)))=true:=by
  have h3:(Sum.inr (tx o):Key)∈kvs.map (·.1):=by rw [h.keys];exact List.mem_map_of_mem ho
  obtain ⟨kv,h1,h2⟩:=List.mem_map.mp h3
  exact List.any_eq_true.mpr ⟨kv,h1,decide_eq_true h2⟩
 unfold fG
 rw [if_pos hy]
 clear hy
 have no:∀ {ls:List (List Nat)} {kvs:List (Key×V)},aY H g ls kvs->o∉ls->aY H (fun x=>if x=o then new else g x) ls (kvs.map fun kv=>if kv.1=Sum.inr (tx o) then (kv.1,V.ref a) else kv):=fun {ls kvs} h=>by
  induction h with
  | nil=>intro _;exact .nil
  | @cons o' b _ _ e1 _ ih =>
   intro hn
   have hne:o'≠o:=fun z=>hn (z▸List.mem_cons_self ..)
   rw [List.map_cons,if_neg (fun z=>hne (fU (Sum.inr.inj z)))]
   exact .cons (by rw [if_neg hne];exact e1) (ih fun z=>hn (List.mem_cons_of_mem _ z))
 induction h with
 | nil=>cases ho
 | @cons o' b _ _ e1 hr ih =>
  rw [List.nodup_cons] at nd
  rw [List.map_cons]
  by_cases hoo:o'=o
  ·subst hoo
   rw [if_pos rfl]
   exact .cons (by rw [if_pos rfl];exact e) (no hr nd.1)
  ·rw [if_neg (fun z=>hoo (fU (Sum.inr.inj z)))]
   exact .cons (by rw [if_neg hoo];exact e1) (ih nd.2 ((List.mem_cons.mp ho).resolve_left (Ne.symm hoo)))
def Gg (p:List Nat)(D:Addr)(us ks:List (List Nat))(H:Hp):Prop:=∃ (kvs:List (Key×V)) (ls:List (List Nat)) (g:List Nat->List (List Nat)),H D=some (.dK kvs)∧aY H g ls kvs∧ls.Nodup∧ls.length<=2*us.length+ks.length∧(∀ t,t∈ls↔t≠p∧(IsP us t∨t∈ks))∧∀ t∈ls,(g t).Perm (us.filter fun l=>decide (beg l=t))∧(g t).Pairwise (fun a b=>¬ b<a)
def sA (K:PySem.W.Frag):Sp:=fun vs H Q _=>∃ (b:Addr) (ms:List (List Nat)) (p:List Nat),vs=[.ref b,T p]∧SqL K H b (ms.map T)∧(ms.length<=1000∧∀ x∈ms,1<=x.length∧x.length<=1000)∧∀ D H',H D=none->aN H H'->Gg p D ms [] H'->Q (.ref D) H'
theorem tZ {f:Addr}{fd:FuncData}(F:Fun K "_law_ways" "_law_ways" eV f fd)(tt:Txt K mg ad):cT P w K mg base (CX1 P w) 1 f fd ["words", "piece"] (sA K):=by
 refine F.okN fX (fun vs H Q E h=>?_) (fun cdv A outer s H vs Q E hr h=>?_)
 ·obtain ⟨b,ms,p,rfl,_⟩:=h
  rfl
 ·obtain ⟨b,ms,p,rfl,hS,⟨hl,hx⟩,q⟩:=h
  have hs:sizeLine=16777216:=sizeLine_eq
  refine ⟨_,(aB (aJ (i:=2) fX.nd rfl (Or.inl rfl) iW)
   (aB (dA PassesOwn.never rfl (cD (pv 0)) (bS (i:=3) fX.nd rfl (Or.inl rfl)) (aB (dA PassesOwn.never rfl (cD (dX (aA (bE kJ (pv 3) bT (bQ (lP iH aG))) (aA (bE kJ (pv 3) (bQ aG) bT) aD)))) (bS (i:=4) fX.nd rfl (Or.inl rfl)) (aF (cL (aQ nW (pv 4) (pv 1) (bF _)) (aF (fO (xC (pv 2) (pv 4) (dX aD) ⟨rfl,rfl,rfl,rfl⟩))) bD)))
   (aF (cL (aQ nW (bE kJ (pv 3) bT (bQ (lP iH aG))) (pv 1) (bF _)) (aF (lB (eY hr) (pv 2) (bE kJ (pv 3) bT (bQ (lP iH aG))) (aM kS (by rfl) tt.b_sorted PyProof.Rows.boot_sorted (aA (aL jQ (fZ (eY hr) (pv 2) (bE kJ (pv 3) bT (bQ (lP iH aG))) (fun _ _=>rfl)) (dX (aA (pv 3) aD))) aD)) rfl)) bD))))
   (aF (bL (pv 2))))),?_⟩
  (try rw [eK]);(try rw [cxK1])
  refine fun D hD=>?_
  have sD:=aH (o:=.dK []) hD
  have tolist:∀ {H'},Kp D H H'->SqL K H' b (ms.map T):=fun {H'} k=>SqL.keepTwo hS fun o e=>k b o (fun z=>by rw [z,hD] at e;cases e) e
  refine ⟨_,rfl,b,rfl,⟨_,sD.seq hS⟩,?_⟩
  refine dS (K:=K) (a:=b) (xs:=ms.map T) (fun i σ H3=>Kp D H H3∧Gg p D (ms.take i) [] H3∧∃ v3 v4:Option V,σ=[some (.ref b),some (T p),some (.ref D),v3,v4]) ⟨fun b o _ e=>sD b o e,⟨[],[],fun _=>[],aC,.nil,List.nodup_nil,Nat.zero_le _,fun t=>⟨fun z=>(nomatch z),fun z=>z.2.elim (fun ⟨w,h,_⟩=>by rw [List.take_zero] at h;cases h) (fun h=>(nomatch h))⟩,fun t h=>(nomatch h)⟩,none,none,rfl⟩ (fun i σ H3 _ h=>tolist h.1) ?_ ?_
  ·rintro i y σ H3 hi ⟨k3,hw3,v3,v4,rfl⟩
   obtain ⟨x,hxi,rfl⟩:∃ x,ms[i]?=some x∧T x=y:=by rw [List.getElem?_map] at hi;exact Option.map_eq_some_iff.mp hi
   have hxx:=hx x (List.mem_of_getElem? hxi)
   have htk:ms.take (i+1)=ms.take i++[x]:=by rw [List.take_add_one,hxi];rfl
   have hil:(ms.take i).length<=1000:=by rw [List.length_take];omega
   have cb:gG x none (some (-(1:Int)))=beg x:=mF hxx.1
   have ce:gG x (some 1) none=x.drop 1:=gU (k:=1) hxx.1
   refine ⟨_,rfl,_,rfl,_,rfl,_,rfl,(by omega),_,rfl,_,rfl,_,rfl,(by omega),(by show 2<=sizeLine;omega),fun l hl=>?_⟩
   rw [cb,ce]
   have s4:=aH (o:=.lst [T (beg x),T (x.drop 1)]) hl
   have hlD:l≠D:=fun z=>by obtain ⟨kvs,_,_,h,_⟩:=hw3;rw [z,h] at hl;cases hl
   have h4:upd H3 l (.lst [T (beg x),T (x.drop 1)]) l=some (.lst [T (beg x),T (x.drop 1)]):=aC
   have hw4:Gg p D (ms.take i) [] (upd H3 l (.lst [T (beg x),T (x.drop 1)])):=by
    obtain ⟨kvs,ls,g,h1,h2,h3⟩:=hw3
    exact ⟨kvs,ls,g,s4 D _ h1,h2.mono s4,h3⟩
   generalize upd H3 l (.lst [T (beg x),T (x.drop 1)])=H4 at s4 h4 hw4
   refine ⟨l,rfl,⟨_,SqL.of h4⟩,?_⟩
   refine dS (K:=K) (a:=l) (xs:=[beg x,x.drop 1].map T) (fun j σ H5=>Kp D H4 H5∧Gg p D (ms.take i) ([beg x,x.drop 1].take j) H5∧∃ v4:Option V,σ=[some (.ref b),some (T p),some (.ref D),some (T x),v4]) ⟨fun b o _ e=>e,hw4,v4,rfl⟩ (fun j σ H5 _ h=>SqL.of (h.1 l _ hlD h4)) ?_ ?_
   ·rintro j y σ H5 hj ⟨k5,hw5,v4,rfl⟩
    obtain ⟨o,ho,rfl⟩:∃ o,[beg x,x.drop 1][j]?=some o∧T o=y:=by rw [List.getElem?_map] at hj;exact Option.map_eq_some_iff.mp hj
    have htj:[beg x,x.drop 1].take (j+1)=[beg x,x.drop 1].take j++[o]:=by rw [List.take_add_one,ho];rfl
    have hjl:([beg x,x.drop 1].take j).length<=2:=by rw [List.length_take];exact Nat.min_le_right _ _
    obtain ⟨kvs,ls,g,hd5,hwa,nd,hll,hm,hg⟩:=hw5
    refine ⟨_,rfl,_,rfl,_,rfl,_,rfl,_,rfl,?_⟩
    by_cases hop:o=p
    ·refine itN (by rw [decide_eq_true hop];exact Bool.false_ne_true) ?_
     refine ⟨k5,⟨kvs,ls,g,hd5,hwa,nd,by rw [htj,List.length_append];omega,fun t=>?_,hg⟩,some (T o),rfl⟩
     rw [hm,htj,List.mem_append,List.mem_singleton]
     constructor
     ·rintro ⟨h1,h2 | h2⟩
      ·exact ⟨h1,.inl h2⟩
      ·exact ⟨h1,.inr (.inl h2)⟩
     ·rintro ⟨h1,h2 | h2 | h2⟩
      ·exact ⟨h1,.inl h2⟩
      ·exact ⟨h1,.inr h2⟩
      ·exact absurd (h2.trans hop) h1
    ·refine itP (by rw [decide_eq_false hop];rfl) ?_
     refine ⟨_,rfl,D,rfl,⟨_,hd5⟩,_,rfl,(by show 0<=sizeLine;omega),fun e he=>?_⟩
     have s6:=aH (o:=.lst []) he
     refine ⟨kvs,Sum.inr (tx o),s6 D _ hd5,rfl,by rw [hwa.len];omega,fun v hv=>?_,fun hn=>?_⟩
     ·have hol:o∈ls:=Decidable.byContradiction fun z=>by rw [Ap hwa z] at hv;cases hv
      refine ⟨fun b o' hb e'=>s6 b o' (k5 b o' hb e'),⟨kvs,ls,g,s6 D _ hd5,hwa.mono s6,nd,by rw [htj,List.length_append];omega,fun t=>?_,hg⟩,some (T o),rfl⟩
      rw [hm,htj,List.mem_append,List.mem_singleton]
      constructor
      ·rintro ⟨h1,h2 | h2⟩
       ·exact ⟨h1,.inl h2⟩
       ·exact ⟨h1,.inr (.inl h2)⟩
      ·rintro ⟨h1,h2 | h2 | h2⟩
       ·exact ⟨h1,.inl h2⟩
       ·exact ⟨h1,.inr h2⟩
       ·rw [h2];exact (hm o).mp hol
     ·have hol:o∉ls:=fun z=>by obtain ⟨a,h1,_⟩:=hwa.get z;rw [h1] at hn;cases hn
      have heD:e≠D:=fun z=>by rw [z,hd5] at he;cases he
      have hw6:aY (upd H5 e (.lst [])) (fun t=>if t=o then [] else g t) ls kvs:=(hwa.mono s6).cong fun t ht=>by have hne:t≠o:=fun z=>hol (z▸ht);rw [if_neg hne]
      have hw7:=(hw6.put hol (a:=e) (by rw [if_pos rfl];exact aC)).updD (o:=.dK (fG kvs (Sum.inr (tx o)) (.ref e))) (s6 D _ hd5)
      refine ⟨fun b o' hb e'=>by rw [aI hb];exact s6 b o' (k5 b o' hb e'),⟨_,ls++[o],_,aC,hw7,?_,by rw [htj,List.length_append,List.length_append];show _+1<=_+(_+1);omega,fun t=>?_,fun t ht=>?_⟩,some (T o),rfl⟩
      ·exact List.nodup_append.mpr ⟨nd,by simp,fun a ha c hc z=>hol (by rw [<- List.mem_singleton.mp hc,<- z];exact ha)⟩
      ·rw [List.mem_append,hm,htj,List.mem_append,List.mem_singleton]
       constructor
       ·rintro (⟨h1,h2 | h2⟩ | h2)
        ·exact ⟨h1,.inl h2⟩
        ·exact ⟨h1,.inr (.inl h2)⟩
        ·exact ⟨h2▸hop,.inr (.inr h2)⟩
       ·rintro ⟨h1,h2 | h2 | h2⟩
        ·exact .inl ⟨h1,.inl h2⟩
        ·exact .inl ⟨h1,.inr h2⟩
        ·exact .inr h2
      ·rcases List.mem_append.mp ht with z | z
       ·have hne:t≠o:=fun e=>hol (e▸z)
        rw [if_neg hne]
        exact hg t z
       ·have z:=List.mem_singleton.mp z
        subst z
        rw [if_pos rfl]
        refine ⟨?_,List.Pairwise.nil⟩
        rw [List.filter_eq_nil_iff.mpr fun u hu e=>hol ((hm t).mpr ⟨hop,.inl ⟨u,hu,.inl (of_decide_eq_true e).symm⟩⟩)]
   ·rintro σ H5 ⟨k5,hw5,v4,rfl⟩
    have hw5:Gg p D (ms.take i) [beg x,x.drop 1] H5:=hw5
    obtain ⟨kvs,ls,g,hd5,hwa,nd,hll,hm,hg⟩:=hw5
    have hll':ls.length<=2*(ms.take i).length+2:=hll
    have k5':Kp D H H5:=fun b o hb e=>k5 b o hb (s4 b o (k3 b o hb e))
    have hmem:∀ t,t∈ls↔t≠p∧(IsP (ms.take (i+1)) t∨t∈([]:List (List Nat))):=fun t=>by
     rw [hm,htk]
     constructor
     ·rintro ⟨h1,⟨u,h2,h3⟩ | h2⟩
      ·exact ⟨h1,.inl ⟨u,List.mem_append_left _ h2,h3⟩⟩
      ·refine ⟨h1,.inl ⟨x,List.mem_append_right _ (List.mem_singleton.mpr rfl),?_⟩⟩
       rcases List.mem_cons.mp h2 with z | z
       ·exact .inl z
       ·exact .inr (List.mem_singleton.mp z)
     ·rintro ⟨h1,⟨u,h2,h3⟩ | h2⟩
      ·rcases List.mem_append.mp h2 with z | z
       ·exact ⟨h1,.inl ⟨u,z,h3⟩⟩
       ·rw [List.mem_singleton.mp z] at h3
        exact ⟨h1,.inr (h3.elim (fun e=>e▸List.mem_cons_self ..) fun e=>e▸List.mem_cons_of_mem _ (List.mem_cons_self ..))⟩
      ·cases h2
    have hl2:ls.length<=2*(ms.take (i+1)).length+([]:List (List Nat)).length:=by
     rw [htk,List.length_append]
     show _<=2*(_+1)+0
     have:([beg x,x.drop 1]:List (List Nat)).length=2:=rfl
     omega
    refine ⟨_,rfl,_,rfl,_,rfl,_,rfl,(by omega),_,rfl,_,rfl,_,rfl,_,rfl,?_⟩
    rw [cb]
    by_cases hop:beg x=p
    ·refine itN (by rw [decide_eq_true hop];exact Bool.false_ne_true) ?_
     refine ⟨k5',⟨kvs,ls,g,hd5,hwa,nd,hl2,hmem,fun t ht=>?_⟩,_,_,rfl⟩
     rw [htk,List.filter_append,List.filter_cons_of_neg (by intro z;exact ((hm t).mp ht).1 ((of_decide_eq_true z).symm.trans hop)),List.filter_nil,List.append_nil]
     exact hg t ht
    ·refine itP (by rw [decide_eq_false hop];rfl) ?_
     have hbl:beg x∈ls:=(hm _).mpr ⟨hop,.inr (List.mem_cons_self ..)⟩
     obtain ⟨a,ha1,ha2⟩:=hwa.get hbl
     have hgl:(g (beg x)).length<=1000:=by rw [(hg _ hbl).1.length_eq];exact Nat.le_trans (List.length_filter_le ..) hil
     refine ⟨_,rfl,_,rfl,_,rfl,_,rfl,_,rfl,(by omega),D,_,rfl,(by rw [cb];have z:=lH.k (k:=Sum.inr (tx (beg x))) hd5;rw [ha1] at z;exact z),_,rfl,(by show 1<=sizeLine;omega),fun e he=>?_⟩
     have s6:=aH (o:=.lst [T x]) he
     refine ⟨a,e,_,_,rfl,rfl,SqL.of (s6 a _ ha2),SqL.of aC,(by rw [List.length_map];show _+1<=sizeLine;omega),fun e2 he2=>?_⟩
     have s7:=s6.trans (aH (o:=.lst ((g (beg x)).map T++[T x])) he2)
     refine ⟨e2,g (beg x)++[x],rfl,SqL.of (by rw [List.map_append];exact aC),fun so e3 he3 hp3 hw3=>?_⟩
     have s8:=s7.trans (aH (o:=.lst (so.map T)) he3)
     have h8:upd (upd (upd H5 e (.lst [T x])) e2 (.lst ((g (beg x)).map T++[T x]))) e3 (.lst (so.map T)) e3=some (.lst (so.map T)):=aC
     generalize upd (upd (upd H5 e (.lst [T x])) e2 (.lst ((g (beg x)).map T++[T x]))) e3 (.lst (so.map T))=H8 at s8 h8
     refine ⟨_,rfl,_,rfl,_,rfl,_,rfl,_,rfl,(by omega),D,_,rfl,(by rw [cb];exact tY.k (k:=Sum.inr (tx (beg x))) (s8 D _ hd5) (by rw [hwa.len];omega)),?_⟩
     have hw9:=((hwa.mono s8).repl nd hbl h8).updD (o:=.dK (fG kvs (Sum.inr (tx (beg x))) (.ref e3))) (s8 D _ hd5)
     refine ⟨fun b o hb e'=>by rw [aI hb];exact s8 b o (k5' b o hb e'),⟨_,ls,_,aC,hw9,nd,hl2,hmem,fun t ht=>?_⟩,_,_,rfl⟩
     rw [htk,List.filter_append]
     by_cases htb:t=beg x
     ·subst htb
      rw [if_pos rfl,List.filter_cons_of_pos (p:=fun l=>decide (beg l=beg x)) (decide_eq_true rfl),List.filter_nil]
      exact ⟨hp3.trans ((hg _ hbl).1.append_right _),hw3⟩
     ·rw [if_neg htb,List.filter_cons_of_neg (by intro z;exact htb (of_decide_eq_true z).symm),List.filter_nil,List.append_nil]
      exact hg t ht
  ·rintro σ H3 ⟨k3,hw3,v3,v4,rfl⟩
   rw [List.length_map,List.take_length] at hw3
   exact ⟨_,rfl,q D H3 hD (fun b o e=>k3 b o (aK e hD) e) hw3⟩
theorem Ff {α β:Type}{R:α->β->Prop}{as:List α}{bs:List β}{p:α->Bool}{q:β->Bool}(h:Dt.R2 R as bs)(e:∀ a b,R a b->p a=q b):Dt.R2 R (as.filter p) (bs.filter q):=by
 induction h with
 | nil=>exact .nil
 | @cons a b _ _ r _ ih =>
  by_cases z:p a=true
  ·rw [List.filter_cons_of_pos z,List.filter_cons_of_pos (by rw [<- e a b r];exact z)]
   exact .cons r ih
  ·rw [List.filter_cons_of_neg z,List.filter_cons_of_neg (by rw [<- e a b r];exact z)]
   exact ih
theorem Ld {α β γ:Type}{R:α->β->Prop}{as:List α}{bs:List β}(f:β->γ)(h:Dt.R2 R as bs):Dt.R2 (fun a c=>∃ b,c=f b∧R a b) as (bs.map f):=by
 induction h with
 | nil=>exact .nil
 | cons r _ ih=>exact .cons ⟨_,rfl,r⟩ ih
theorem Md {α β γ:Type}{R:α->β->Prop}{S:β->γ->Prop}{as:List α}{bs:List β}(h:Dt.R2 R as bs):∀ {cs:List γ},Dt.R2 S bs cs->Dt.R2 (fun a c=>∃ b,R a b∧S b c) as cs:=by
 induction h with
 | nil=>intro cs h2;cases h2;exact .nil
 | cons r _ ih =>
  intro cs h2
  cases h2 with
  | cons r2 h2=>exact .cons ⟨_,r,r2⟩ (ih h2)
theorem wL {g:List Nat->List (List Nat)}{t:List Nat}:∀ l:List (List Nat->List Nat),(l.flatMap fun f=>(g t).map fun w=>Dt.eA f t w).length=l.length*(g t).length
 | []=>by simp
 | f::l=>by rw [List.flatMap_cons,List.length_append,List.length_map,wL l,List.length_cons,Nat.add_mul,Nat.one_mul,Nat.add_comm]
theorem Hh {ls:List (List Nat)}{f:List Nat->List Nat}{t w:List Nat}(h:t∉ls):fG (cKs ls f) (Sum.inr (tx t)) (T w)=cKs (ls++[t]) (Dt.eA f t w):=by
 have hn:¬ ((cKs ls f).any fun kv=>decide (kv.1=Sum.inr (tx t)))=true:=fun z=>by
  obtain ⟨kv,h1,h2⟩:=List.any_eq_true.mp z
  obtain ⟨u,h3,rfl⟩:=List.mem_map.mp h1
  exact h (fU (Sum.inr.inj (of_decide_eq_true h2))▸h3)
 unfold fG
 rw [if_neg hn]
 unfold cKs
 rw [List.map_append,List.map_singleton,Dt.mO]
 congr 1
 exact List.map_congr_left fun u hu=>by have hne:u≠t:=fun e=>h (e▸hu);rw [Dt.sW hne]
theorem Gf {ls:List (List Nat)}{f:List Nat->List Nat}:(cKs ls f).map (·.1)=ls.map fun t=>Sum.inr (tx t):=by unfold cKs;rw [List.map_map];rfl
theorem rJ {ls:List (List Nat)}{f f':List Nat->List Nat}(h:∀ t∈ls,f t=f' t){t:List Nat}:∀ k,itT ls f k t=itT ls f' k t
 | 0=>rfl
 | k+1=>by
  show stT ls f (itT ls f k t)=stT ls f' (itT ls f' k t)
  rw [rJ h k]
  unfold stT
  by_cases e:itT ls f' k t∈ls
  ·rw [if_pos e,if_pos e,h _ e]
  ·rw [if_neg e,if_neg e]
theorem lK {ls:List (List Nat)}{f f':List Nat->List Nat}(h:∀ t∈ls,f t=f' t):eM ls f=eM ls f':=by
 unfold eM
 congr 1
 funext t
 rw [rJ h]
def rdC (H:Hp)(v:V)(t:List Nat):List Nat:=match v with
 | .ref b=>match H b with
  | some (.dK kvs)=>match fY kvs (Sum.inr (tx t)) with
   | some x=>unT x
   | none=>[]
  | _=>[]
 | _=>[]
theorem sQ {H:Hp}{b:Addr}{ls:List (List Nat)}{f:List Nat->List Nat}(h:H b=some (.dK (cKs ls f))):∀ t∈ls,rdC H (.ref b) t=f t:=fun t ht=>by
 unfold rdC
 dsimp only
 rw [h]
 dsimp only
 rw [nX,if_pos ht]
 exact fH _
theorem vH {g:List Nat->Nat}:∀ (ls:List (List Nat)) (m:Nat),((ls.take m).map g).sum<=(ls.map g).sum
 | [],m=>by simp
 | l::ls,0=>by simp
 | l::ls,m+1=>by
  rw [List.take_succ_cons,List.map_cons,List.map_cons,List.sum_cons,List.sum_cons]
  have:=vH (g:=g) ls m
  omega
theorem rO {g:List Nat->List (List Nat)}{so ls:List (List Nat)}(hp:so.Perm ls)(h:(ls.map fun t=>(g t).length).sum<=20)(m:Nat):(Dt.chs g (so.take m).reverse).length<=1048576:=by
 have h1:=Dt.oH (g:=g) (so.take m).reverse
 have h2:((so.take m).reverse.map fun t=>(g t).length).sum<=20:=by
  rw [((List.reverse_perm (so.take m)).map fun t=>(g t).length).sum_nat]
  refine Nat.le_trans (vH so m) ?_
  rw [(hp.map fun t=>(g t).length).sum_nat]
  exact h
 have h3:2 ^ ((so.take m).reverse.map fun t=>(g t).length).sum<=2 ^ 20:=Nat.pow_le_pow_right (by decide) h2
 exact Nat.le_trans h1 h3
def xO:Sp:=fun vs H Q _=>∃ (a:Addr) (ls:List (List Nat)) (kvs:List (Key×V)) (g:List Nat->List (List Nat)),vs=[.ref a]∧H a=some (.dK kvs)∧aY H g ls kvs∧ls.Nodup∧(ls.length<=100∧(ls.map fun t=>(g t).length).sum<=20∧∀ t∈ls,∀ x∈g t,1<=x.length∧x.length<=1000) ∧
 ∀ (so:List (List Nat)) (D:Addr) (bs:List Addr) (H':Hp),so.Perm ls->so.Pairwise (fun a b=>¬ b<a)->H D=none->aN H H'->H' D=some (.lst (bs.map V.ref))->Dt.R2 (fun f b=>b≠D∧H b=none∧H' b=some (.lst ((so.map f).map T))) ((Dt.chs g so.reverse).filter (eM so)) bs->Q (.ref D) H'
theorem jW {f:Addr}{fd:FuncData}(F:Fun K "_law_all_choices" "_law_all_choices" bV f fd)(tt:Txt K mg ad)(C__law_comes:Cal P w K mg base (CX1 P w) "_law_comes" 1 ["chosen"] tV):cT P w K mg base (CX1 P w) 2 f fd ["ways"] xO:=by
 refine F.okN bK (fun vs H Q E h=>?_) (fun cdv A outer s H vs Q E hr h=>?_)
 ·obtain ⟨a,ls,kvs,g,rfl,_⟩:=h
  rfl
 ·obtain ⟨a,ls,kvs,g,rfl,hd,hwa,nd,⟨hl,hsum,hg⟩,q⟩:=h
  have hs:sizeLine=16777216:=sizeLine_eq
  refine ⟨_,(aB (aJ (i:=1) bK.nd rfl (Or.inl rfl) (dX (aA iW aD)))
   (aB (dA PassesOwn.never rfl (cD (aM (lF rfl) (by rfl) tt.b_sorted PyProof.Rows.boot_sorted (aA (pv 0) aD))) (bS (i:=2) bK.nd rfl (Or.inl rfl)) (aB (aJ (i:=3) bK.nd rfl (Or.inl rfl) (dX aD))
   (aB (dA PassesOwn.never rfl (cD (pv 1)) (bS (i:=4) bK.nd rfl (Or.inl rfl)) (aF (dA PassesOwn.never rfl (cD (fZ (eY hr) (pv 0) (pv 2) (fun _ _=>rfl))) (bS (i:=5) bK.nd rfl (Or.inl rfl)) (aB (aJ (i:=6) bK.nd rfl (Or.inl rfl) (eF uO (by rfl) tt.b_dict (by decide +kernel) (aA (pv 4) aD)))
   (aB (lB (eY hr) (pv 6) (pv 2) (pv 5) rfl)
   (aF (fO (uG PySem.F.plainAttrs_list PySem.F.slot_list_append PySem.F.type_list_append gA (pv 3) (aA (pv 6) aD)))))))))
   (aF (aJ (i:=1) bK.nd rfl (Or.inl rfl) (pv 3))))))
   (aF (bL (Ca iU rfl (cD (pv 1)) (fun cl C s' H' fp=>(tM (aU C__law_comes hr bU (aA (pv 0) aD)))) (fun cl C s' H' fp=>(eR iR rfl (Ds K rfl (aM (lF rfl) (by rfl) tt.b_sorted PyProof.Rows.boot_sorted (aA (pv 0) aD))) (fun cl C s' H' fp=>(fZ (eY hr) (pv 1) (pv 0) (fun _ _=>rfl)))))))))),?_⟩
  (try rw [eK]);(try rw [cxK1])
  refine fun d hd0=>?_
  have s1:=aH (o:=.dK []) hd0
  refine ⟨(by show 1<=sizeLine;omega),fun F0 hF0=>?_⟩
  have s2:=s1.trans (aH (o:=.lst [.ref d]) hF0)
  have hdd:upd (upd H d (.dK [])) F0 (.lst [.ref d]) d=some (.dK []):=(aH (o:=.lst [.ref d]) hF0) d _ aC
  have hFF:upd (upd H d (.dK [])) F0 (.lst [.ref d]) F0=some (.lst [.ref d]):=aC
  generalize upd (upd H d (.dK [])) F0 (.lst [.ref d])=H2 at s2 hdd hFF
  refine ⟨_,rfl,a,ls,kvs,rfl,s2 a _ hd,hwa.keys,fun so S hS hp hw=>?_⟩
  have s3:=aH (o:=.lst (so.map T)) hS
  have hS3:upd H2 S (.lst (so.map T)) S=some (.lst (so.map T)):=aC
  have hdd:=s3 d _ hdd
  have hFF:=s3 F0 _ hFF
  have s03:=s2.trans s3
  generalize upd H2 S (.lst (so.map T))=Hs at s3 hS3 hdd hFF s03
  have nds:so.Nodup:=hp.nodup_iff.mpr nd
  have hgs:∀ t∈so,∀ x∈g t,1<=x.length∧x.length<=1000:=fun t ht=>hg t (hp.mem_iff.mp ht)
  have hsl:so.length<=100:=by rw [hp.length_eq];exact hl
  refine ⟨S,rfl,⟨_,SqL.of hS3⟩,?_⟩
  refine dS (K:=K) (a:=S) (xs:=so.map T) (fun i σ H3=>aN Hs H3∧∃ (Fi:Addr) (bs:List Addr) (v2 v3 v4 v5 v6:Option V),H3 Fi=some (.lst (bs.map V.ref))∧Dt.R2 (fun f b=>H3 b=some (.dK (cKs (so.take i) f))) (Dt.chs g (so.take i).reverse) bs∧σ=[some (.ref a),some (.ref Fi),v2,v3,v4,v5,v6]) ⟨aN.refl _,F0,[d],none,none,none,none,none,hFF,.cons hdd .nil,rfl⟩ (fun i σ H3 _ h=>SqL.of (h.1 S _ hS3)) ?_ ?_
  ·rintro i y σ H3 hi ⟨s3,Fi,bs,v2,v3,v4,v5,v6,hFi,hR,rfl⟩
   obtain ⟨t,hti,rfl⟩:∃ t,so[i]?=some t∧T t=y:=by rw [List.getElem?_map] at hi;exact Option.map_eq_some_iff.mp hi
   have htso:=List.mem_of_getElem? hti
   have htk:so.take (i+1)=so.take i++[t]:=by rw [List.take_add_one,hti];rfl
   have hnot:t∉so.take i:=fun z=>by
    have nd':(so.take i++[t]).Nodup:=htk▸nds.sublist (List.take_sublist (i+1) so)
    exact (List.nodup_append.mp nd').2.2 _ z _ (List.mem_singleton.mpr rfl) rfl
   have hch:Dt.chs g (so.take (i+1)).reverse=(Dt.chs g (so.take i).reverse).flatMap fun f=>(g t).map fun w=>Dt.eA f t w:=by rw [htk,List.reverse_append];rfl
   have hsmall:(Dt.chs g (so.take i).reverse).length*(g t).length<=1048576:=by
    have:=rO (g:=g) hp hsum (i+1)
    rw [hch,wL] at this
    exact this
   refine ⟨(by show 0<=sizeLine;omega),fun M hM=>?_⟩
   have s4:=aH (o:=.lst []) hM
   have hM4:upd H3 M (.lst []) M=some (.lst []):=aC
   have nM:∀ b o,H3 b=some o->b≠M:=fun b o e=>aK e hM
   generalize upd H3 M (.lst [])=H4 at s4 hM4
   have hbl:=hR.len
   refine ⟨_,rfl,Fi,rfl,⟨_,SqL.of (s4 Fi _ hFi)⟩,?_⟩
   refine dS (K:=K) (a:=Fi) (xs:=bs.map V.ref) (fun j σ H5=>Kp M H4 H5∧∃ (cs:List Addr) (v4 v5 v6:Option V),H5 M=some (.lst (cs.map V.ref))∧Dt.R2 (fun f b=>H5 b=some (.dK (cKs (so.take (i+1)) f))) (((Dt.chs g (so.take i).reverse).take j).flatMap fun f=>(g t).map fun w=>Dt.eA f t w) cs∧σ=[some (.ref a),some (.ref Fi),some (T t),some (.ref M),v4,v5,v6]) ⟨fun b o _ e=>e,[],v4,v5,v6,hM4,.nil,rfl⟩ (fun j σ H5 _ h=>SqL.of (h.1 Fi _ (nM Fi _ hFi) (s4 Fi _ hFi))) ?_ ?_
   ·rintro j y σ H5 hj ⟨k5,cs,v4,v5,v6,hM5,hR5,rfl⟩
    obtain ⟨b,hbj,rfl⟩:∃ b,bs[j]?=some b∧V.ref b=y:=by rw [List.getElem?_map] at hj;exact Option.map_eq_some_iff.mp hj
    obtain ⟨f,hfj,hfb⟩:=hR.get hbj
    have hjl:j<(Dt.chs g (so.take i).reverse).length:=(List.getElem?_eq_some_iff.mp hfj).1
    have htj:(Dt.chs g (so.take i).reverse).take (j+1)=(Dt.chs g (so.take i).reverse).take j++[f]:=by rw [List.take_add_one,hfj];rfl
    have nMa:a≠M:=nM a _ (s3 a _ (s03 a _ hd))
    have hwa5:=(((hwa.mono s03).mono s3).mono s4).get (hp.mem_iff.mp htso)
    obtain ⟨c,hc1,hc2⟩:=hwa5
    have hcM:c≠M:=by
     obtain ⟨c',hc1',hc2'⟩:=((hwa.mono s03).mono s3).get (hp.mem_iff.mp htso)
     rw [hc1'] at hc1
     obtain rfl:c'=c:=by cases hc1;rfl
     exact nM _ _ hc2'
    have ha5:∀ {H6},Kp M H4 H6->H6 a=some (.dK kvs):=fun {H6} k=>k a _ nMa (s4 a _ (s3 a _ (s03 a _ hd)))
    refine ⟨_,rfl,_,rfl,a,_,rfl,(by have z:=lH.k (k:=Sum.inr (tx t)) (ha5 k5);rw [hc1] at z;exact z),c,rfl,⟨_,SqL.of (k5 c _ hcM hc2)⟩,?_⟩
    refine dS (K:=K) (a:=c) (xs:=(g t).map T) (fun k σ H6=>Kp M H4 H6∧∃ (cs:List Addr) (v5 v6:Option V),H6 M=some (.lst (cs.map V.ref))∧Dt.R2 (fun f b=>H6 b=some (.dK (cKs (so.take (i+1)) f))) ((((Dt.chs g (so.take i).reverse).take j).flatMap fun f=>(g t).map fun w=>Dt.eA f t w)++((g t).take k).map fun w=>Dt.eA f t w) cs∧σ=[some (.ref a),some (.ref Fi),some (T t),some (.ref M),some (.ref b),v5,v6]) ⟨k5,cs,v5,v6,hM5,by rw [List.take_zero,List.map_nil,List.append_nil];exact hR5,rfl⟩ (fun k σ H6 _ h=>SqL.of (h.1 c _ hcM hc2)) ?_ ?_
    ·rintro k y σ H6 hk ⟨k6,cs,v5,v6,hM6,hR6,rfl⟩
     obtain ⟨wd,hwk,rfl⟩:∃ wd,(g t)[k]?=some wd∧T wd=y:=by rw [List.getElem?_map] at hk;exact Option.map_eq_some_iff.mp hk
     have hkl:k<(g t).length:=(List.getElem?_eq_some_iff.mp hwk).1
     have hcl:cs.length<sizeLine:=by
      have e:=hR6.len
      rw [List.length_append,wL,List.length_map,List.length_take,List.length_take,Nat.min_eq_left (Nat.le_of_lt hjl),Nat.min_eq_left (Nat.le_of_lt hkl)] at e
      have h1:(j+1)*(g t).length<=(Dt.chs g (so.take i).reverse).length*(g t).length:=Nat.mul_le_mul_right _ hjl
      rw [Nat.add_mul,Nat.one_mul] at h1
      omega
     have hb6:H6 b=some (.dK (cKs (so.take i) f)):=k6 b _ (nM b _ hfb) (s4 b _ hfb)
     refine ⟨_,rfl,b,_,rfl,hb6,fun L hL=>?_⟩
     refine ⟨_,rfl,_,rfl,_,rfl,L,_,rfl,tY.k (k:=Sum.inr (tx t)) aC (by rw [sV,List.length_take];omega),?_⟩
     rw [Hh hnot,zX,<- htk]
     have s7:=aH (o:=.dK (cKs (so.take (i+1)) (Dt.eA f t wd))) hL
     have hL7:upd H6 L (.dK (cKs (so.take (i+1)) (Dt.eA f t wd))) L=some (.dK (cKs (so.take (i+1)) (Dt.eA f t wd))):=aC
     generalize upd H6 L (.dK (cKs (so.take (i+1)) (Dt.eA f t wd)))=H7 at s7 hL7
     have hLM:L≠M:=fun z=>by rw [z,hM6] at hL;cases hL
     refine ⟨_,rfl,.inl ⟨rfl,_,SqL.of (s7 M _ hM6)⟩,_,rfl,M,_,_,rfl,rfl,s7 M _ hM6,(by rw [List.length_map];exact hcl),?_⟩
     refine ⟨fun b' o hb' e=>by rw [aI hb'];exact s7 b' o (k6 b' o hb' e),cs++[L],_,_,by rw [aC,List.map_append];rfl,?_,rfl⟩
     rw [show (g t).take (k+1)=(g t).take k++[wd] by rw [List.take_add_one,hwk];rfl,List.map_append,<- List.append_assoc]
     refine Dt.R2.snoc (hR6.mono fun f' b' _ e=>?_) ?_
     ·rw [aI (fun z=>by rw [z,hM6] at e;cases e)]
      exact s7 b' _ e
     ·rw [aI hLM]
      exact hL7
    ·rintro σ H6 ⟨k6,cs,v5,v6,hM6,hR6,rfl⟩
     rw [List.length_map,List.take_length] at hR6
     refine ⟨k6,cs,_,_,_,hM6,?_,rfl⟩
     rw [htj,List.flatMap_append]
     rw [List.flatMap_singleton]
     exact hR6
   ·rintro σ H5 ⟨k5,cs,v4,v5,v6,hM5,hR5,rfl⟩
    rw [List.length_map,<- hbl,List.take_length,<- hch] at hR5
    refine ⟨_,rfl,?_⟩
    exact ⟨fun b o e=>k5 b o (nM b o (s3 b o e)) (s4 b o (s3 b o e)),M,cs,_,_,_,_,_,hM5,hR5,rfl⟩
  ·rintro σ H3 ⟨s3,Fi,bs,v2,v3,v4,v5,v6,hFi,hR,rfl⟩
   rw [List.length_map,List.take_length] at hR
   have hbl:bs.length<=1048576:=by
    have:=rO (g:=g) hp hsum so.length
    rw [List.take_length] at this
    have:=hR.len
    omega
   have hat:∀ v∈bs.map V.ref,∃ (b:Addr) (f:List Nat->List Nat),v = .ref b∧f∈Dt.chs g so.reverse∧H3 b=some (.dK (cKs so f)):=fun v hv=>by
    obtain ⟨b,hb,rfl⟩:=List.mem_map.mp hv
    obtain ⟨i,hi⟩:=List.getElem?_of_mem hb
    obtain ⟨f,h1,h2⟩:=hR.get hi
    exact ⟨b,f,rfl,List.mem_of_getElem? h1,h2⟩
   have hwf:∀ f∈Dt.chs g so.reverse,∀ t∈so,1<=(f t).length∧(f t).length<=1000:=fun f hf t ht=>hgs t ht _ (Dt.zK hf t (List.mem_reverse.mpr ht))
   refine ⟨_,rfl,Fi,rfl,⟨_,SqL.of hFi⟩,?_⟩
   refine Lq (fun v=>eM so (rdC H3 v)) (fun v=>(so.map (rdC H3 v)).map T) (cQ (SqL.of hFi)) (by rw [List.length_map];omega) (fun v G hv sg N hN=>?_) (fun v G hv hpv sg N hN=>?_) fun D bs' H' hD s' hd' hR'=>?_
   ·obtain ⟨b,f,rfl,hf,hb⟩:=hat v hv
    have z:=hN G (aN.refl _)
    rw [lK (sQ hb)] at z
    exact ⟨_,rfl,b,so,f,rfl,sg b _ hb,⟨by omega,hwf f hf⟩,_,rfl,z⟩
   ·obtain ⟨b,f,rfl,hf,hb⟩:=hat v hv
    refine ⟨_,rfl,b,so,_,rfl,sg b _ hb,Gf,fun so2 S2 hS2 hp2 hw2=>?_⟩
    obtain rfl:so2=so:=Wd.mS hp2 hw2 hw
    have sS:=aH (o:=.lst (so2.map T)) hS2
    refine ⟨S2,rfl,⟨_,SqL.of aC⟩,?_⟩
    refine jZ (fun v=>T (f (unT v))) (cQ (SqL.of aC)) (by rw [List.length_map];omega) (fun v2 G2 hv2 sg2 N2 hN2=>?_) fun D2 G3 hD2 sg3 hd2=>?_
    ·obtain ⟨t,ht,rfl⟩:=List.mem_map.mp hv2
     have z:=hN2 G2 (aN.refl _)
     rw [fH] at z
     exact ⟨_,rfl,_,rfl,b,_,rfl,(by have y:=lH.k (k:=Sum.inr (tx t)) (sg2 b _ (sS b _ (sg b _ hb)));rw [nX,if_pos ht] at y;exact y),z⟩
    ·have hD2n:G D2=none:=by
      cases e:G D2 with
      | none=>rfl
      | some o=>rw [sS D2 o e] at hD2;cases hD2
     refine hN D2 G3 (sS.trans sg3) hD2n ?_
     rw [hd2,iC (f:=fun l=>T (f l)),List.map_map]
     refine congrArg (fun l=>some (HO.lst l)) (List.map_congr_left fun t ht=>?_)
     show T (f t)=T (rdC H3 (.ref b) t)
     rw [sQ hb t ht]
   ·have s0:=s03.trans s3
    have hnn:∀ b,H3 b=none->H b=none:=fun b hb=>by
     cases e:H b with
     | none=>rfl
     | some o=>rw [s0 b o e] at hb;cases hb
    refine q so D bs' H' hp hw (hnn D hD) (s0.trans s') hd' ?_
    have hRf:=Ff (p:=eM so) (q:=fun b=>eM so (rdC H3 (.ref b))) hR fun f b e=>(lK (sQ e)).symm
    have hRm:=Ld V.ref hRf
    have e2:(bs.filter fun b=>eM so (rdC H3 (.ref b))).map V.ref=(bs.map V.ref).filter fun v=>eM so (rdC H3 v):=by rw [List.filter_map];rfl
    rw [e2] at hRm
    refine (Md hRm hR').mono fun f c _ ⟨v,⟨b,hv,hb⟩,h1,h2,h3⟩=>⟨h1,hnn c h2,?_⟩
    subst hv
    rw [h3]
    refine congrArg (fun l=>some (HO.lst l)) ?_
    rw [List.map_map,List.map_map]
    exact List.map_congr_left fun t ht=>by show T (rdC H3 (.ref b) t)=T (f t);rw [sQ hb t ht]
def vI (c0:Int)(g g':List Nat->List (List Nat))(ls:List (List Nat)):Prop:=(∀ t∈ls,g' t=g t∨∃ x∈g t,g' t=[x])∧(c0=0->∀ t∈ls,g' t=g t)
def Dg:Sp:=fun vs H Q _=>∃ (a:Addr) (ls:List (List Nat)) (kvs:List (Key×V)) (g:List Nat->List (List Nat)) (c0:Int),vs=[.ref a,.int c0]∧H a=some (.dK kvs)∧aY H g ls kvs∧ls.Nodup∧(ls.length<=1000∧∀ t∈ls,(g t).length<=1000) ∧
 ∀ (D:Addr) (kvs':List (Key×V)) (g':List Nat->List (List Nat)) (H':Hp),H D=none->aN H H'->H' D=some (.dK kvs')->aY H' g' ls kvs'->vI c0 g g' ls->Q (.ref D) H'
theorem vK {f:Addr}{fd:FuncData}(F:Fun K "_law_cut" "_law_cut" fN f fd)(tt:Txt K mg ad):cT P w K mg base (CX1 P w) 1 f fd ["ways", "cell"] Dg:=by
 refine F.okN gK (fun vs H Q E h=>?_) (fun cdv A outer s H vs Q E hr h=>?_)
 ·obtain ⟨a,ls,kvs,g,c0,rfl,_⟩:=h
  rfl
 ·obtain ⟨a,ls,kvs,g,c0,rfl,hd,hwa,nd,⟨hl,hg⟩,q⟩:=h
  have hs:sizeLine=16777216:=sizeLine_eq
  refine ⟨_,(aB (aJ (i:=2) gK.nd rfl (Or.inl rfl) iW)
   (aB (dA PassesOwn.never rfl (Ab (pv 0)) (bS (i:=3) gK.nd rfl (Or.inl rfl)) (aB (lB (eY hr) (pv 2) (pv 3) (eF lM (by rfl) tt.b_list (by decide +kernel) (aA (fZ (eY hr) (pv 0) (pv 3) (fun _ _=>rfl)) aD)) rfl)
   (aB (cL (PW.pt (oC (aQ eI (aL cM (pv 1) aG) aG (bF _)) (kP (aQ lJ (aM aP (by rfl) tt.b_len PySem.boot_len (aA (fZ (eY hr) (pv 0) (pv 3) (fun _ _=>rfl)) aD)) aG (bF _))))) (aF (lB (eY hr) (pv 2) (pv 3) (dX (aA (eS cX (fZ (eY hr) (pv 0) (pv 3) (fun _ _=>rfl)) (aL cM (aL fP (pv 1) aG) (aM aP (by rfl) tt.b_len PySem.boot_len (aA (fZ (eY hr) (pv 0) (pv 3) (fun _ _=>rfl)) aD))) (fun _ _=>rfl)) aD)) rfl)) bD)
   (aF (aJ (i:=1) gK.nd rfl (Or.inl rfl) (aL fP (pv 1) aG))))))
   (aF (bL (pF (pv 2)))))),?_⟩
  (try rw [eK]);(try rw [cxK1])
  refine fun D hD=>?_
  have hDa:D≠a:=fun z=>by rw [z,hd] at hD;cases hD
  have sD:=aH (o:=.dK []) hD
  have hD1:upd H D (.dK []) D=some (.dK []):=aC
  have hdD:=sD a _ hd
  have hwD:=hwa.mono sD
  generalize hHD:upd H D (.dK [])=HD at sD hD1 hdD hwD
  refine ⟨_,rfl,a,kvs,rfl,hdD,fun o=>?_⟩
  have hfr:upd HD a (.frz o (.dK kvs)) a=some (.frz o (.dK kvs)):=aC
  have hw1:aY (upd HD a (.frz o (.dK kvs))) g ls kvs:=hwD.updD hdD
  have hD2:upd HD a (.frz o (.dK kvs)) D=some (.dK []):=by rw [aI hDa];exact hD1
  have k01:∀ b o',b≠a->H b=some o'->upd HD a (.frz o (.dK kvs)) b=some o':=fun b o' hb e=>by rw [aI hb];exact sD b o' e
  generalize upd HD a (.frz o (.dK kvs))=H1 at hfr hw1 hD2 k01
  have hklen:=hwa.len
  refine uH (fun i σ H3=>Kp D H1 H3∧∃ (kvs':List (Key×V)) (g':List Nat->List (List Nat)) (c:Int) (v3:Option V),H3 D=some (.dK kvs')∧aY H3 g' (ls.take i) kvs'∧vI c0 g g' (ls.take i)∧(c0=0->c=0)∧σ=[some (.ref a),some (.int c),some (.ref D),v3]) ⟨fun b o _ e=>e,[],fun _=>[],c0,none,hD2,.nil,⟨fun t ht=>(nomatch ht),fun _ t ht=>(nomatch ht)⟩,id,rfl⟩ (fun i σ H3 _ h=>h.1 a _ hDa.symm hfr) ?_ ?_
  ·rintro i kv σ H3 hi ⟨k3,kvs',g',c,v3,hd3,hw3,hcut,hc0,rfl⟩
   have hik:(kvs.map (·.1))[i]?=some kv.1:=by rw [List.getElem?_map,hi];rfl
   rw [hwa.keys,List.getElem?_map] at hik
   obtain ⟨t,hti,hkt⟩:=Option.map_eq_some_iff.mp hik
   rw [show kV kv.1=T t by rw [<- hkt];rfl]
   have htl:=List.mem_of_getElem? hti
   have htk:ls.take (i+1)=ls.take i++[t]:=by rw [List.take_add_one,hti];rfl
   have hil:(ls.take i).length<=1000:=by rw [List.length_take];omega
   have hnot:t∉ls.take i:=fun z=>by
    have nd':(ls.take i++[t]).Nodup:=htk▸nd.sublist (List.take_sublist (i+1) ls)
    exact (List.nodup_append.mp nd').2.2 _ z _ (List.mem_singleton.mpr rfl) rfl
   obtain ⟨b,hb1,hb2⟩:=hw1.get htl
   have hbD:b≠D:=fun z=>by rw [z,hD2] at hb2;cases hb2
   have hget:∀ {H4},Kp D H1 H4->lH H4 a (T t) (some (.ref b)):=fun {H4} k=>.inl ⟨kvs,Sum.inr (tx t),.inr ⟨o,k a _ hDa.symm hfr⟩,rfl,hb1.symm⟩
   have hgt:=hg t htl
   refine ⟨_,rfl,_,rfl,a,_,rfl,hget k3,b,_,rfl,.inl (SqL.of (k3 b _ hbD hb2)),fun l hl=>?_⟩
   have s4:=aH (o:=.lst ((g t).map T)) hl
   have h4:upd H3 l (.lst ((g t).map T)) l=some (.lst ((g t).map T)):=aC
   generalize upd H3 l (.lst ((g t).map T))=H4 at s4 h4
   refine ⟨_,rfl,_,rfl,D,_,rfl,tY.k (k:=Sum.inr (tx t)) (s4 D _ hd3) (by rw [hw3.len];omega),?_⟩
   have hw5:=(((hw3.mono s4).cong (g':=fun x=>if x=t then g t else g' x) fun x hx=>by have hne:x≠t:=fun e=>hnot (e▸hx);rw [if_neg hne]).put hnot (a:=l) (by rw [if_pos rfl];exact h4)).updD (o:=.dK (fG kvs' (Sum.inr (tx t)) (.ref l))) (s4 D _ hd3)
   rw [<- htk] at hw5
   have k5:Kp D H1 (upd H4 D (.dK (fG kvs' (Sum.inr (tx t)) (.ref l)))):=fun b' o' hb' e=>by rw [aI hb'];exact s4 b' o' (k3 b' o' hb' e)
   have hd5:upd H4 D (.dK (fG kvs' (Sum.inr (tx t)) (.ref l))) D=some (.dK (fG kvs' (Sum.inr (tx t)) (.ref l))):=aC
   generalize upd H4 D (.dK (fG kvs' (Sum.inr (tx t)) (.ref l)))=H5 at hw5 k5 hd5
   have hcut5:vI c0 g (fun x=>if x=t then g t else g' x) (ls.take (i+1)):=by
    rw [htk]
    refine ⟨fun x hx=>?_,fun e x hx=>?_⟩ <;> dsimp only
    ·by_cases z:x=t
     ·rw [if_pos z,z];exact .inl rfl
     ·rw [if_neg z]
      exact hcut.1 x ((List.mem_append.mp hx).resolve_right fun y=>z (List.mem_singleton.mp y))
    ·by_cases z:x=t
     ·rw [if_pos z,z]
     ·rw [if_neg z]
      exact hcut.2 e x ((List.mem_append.mp hx).resolve_right fun y=>z (List.mem_singleton.mp y))
   refine ⟨_,rfl,_,_,rfl,rfl,(by show (0:Int)<2;decide),_,rfl,_,rfl,_,rfl,?_⟩
   have done:∀ (H6:Hp) (k6:List (Key×V)) (g6:List Nat->List (List Nat)),Kp D H1 H6->H6 D=some (.dK k6)->aY H6 g6 (ls.take (i+1)) k6->vI c0 g g6 (ls.take (i+1))->Kp D H1 H6∧∃ (kvs':List (Key×V)) (g':List Nat->List (List Nat)) (c':Int) (v3:Option V),H6 D=some (.dK kvs')∧aY H6 g' (ls.take (i+1)) kvs'∧vI c0 g g' (ls.take (i+1))∧(c0=0->c'=0)∧[some (.ref a),some (.int (c/3)),some (.ref D),some (T t)]=[some (.ref a),some (.int c'),some (.ref D),v3]:=fun H6 k6 g6 e1 e2 e3 e4=>⟨e1,k6,g6,c/3,_,e2,e3,e4,fun z=>by rw [hc0 z];decide,rfl⟩
   refine fL (fun h1=>?_) (fun h1=>?_)
   ·have hodd:=of_decide_eq_true h1
    refine ⟨_,rfl,_,rfl,a,_,rfl,hget k5,b,_,rfl,.inl (SqL.of (k5 b _ hbD hb2)),_,_,rfl,rfl,_,rfl,?_⟩
    rw [List.length_map]
    refine fL (fun h2=>?_) (fun h2=>?_)
    ·have hpos:0<(g t).length:=by have:=of_decide_eq_true h2;omega
     obtain ⟨m,hm1,hm2⟩:∃ m:Nat,c/2 % (((g t).length:Nat):Int)=(m:Int)∧m<(g t).length:=by
      have z0:=Int.emod_nonneg (c/2) (show (((g t).length:Nat):Int)≠0 by omega)
      have z1:=Int.emod_lt_of_pos (c/2) (show (0:Int)<(((g t).length:Nat):Int) by omega)
      exact ⟨(c/2 % (((g t).length:Nat):Int)).toNat,by omega,by omega⟩
     refine ⟨_,rfl,_,rfl,a,_,rfl,hget k5,_,rfl,_,_,rfl,rfl,⟨by decide,by decide⟩,_,rfl,_,rfl,a,_,rfl,hget k5,b,_,rfl,.inl (SqL.of (k5 b _ hbD hb2)),_,_,rfl,rfl,(by rw [List.length_map];omega),b,_,_,_,rfl,rfl,SqL.of (k5 b _ hbD hb2),(by
      show atI ((g t).map T) (c/2 % ((((g t).map T).length:Nat):Int))=some (T (g t)[m])
      rw [List.length_map,hm1]
      exact dC (by rw [List.getElem?_map,List.getElem?_eq_getElem hm2];rfl)),(by show 1<=sizeLine;omega),fun e he=>?_⟩
     have s6:=aH (o:=.lst [T (g t)[m]]) he
     have h6:upd H5 e (.lst [T (g t)[m]]) e=some (.lst ([(g t)[m]].map T)):=aC
     generalize upd H5 e (.lst [T (g t)[m]])=H6 at s6 h6
     refine ⟨_,rfl,_,rfl,D,_,rfl,tY.k (k:=Sum.inr (tx t)) (s6 D _ hd5) (by rw [hw5.len,htk,List.length_append];show _+1<_;omega),?_⟩
     have hw7:=((hw5.mono s6).repl (nd.sublist (List.take_sublist (i+1) ls)) (o:=t) (by rw [htk];exact List.mem_append_right _ (List.mem_singleton.mpr rfl)) h6).updD (o:=.dK (fG (fG kvs' (Sum.inr (tx t)) (.ref l)) (Sum.inr (tx t)) (.ref e))) (s6 D _ hd5)
     refine ⟨_,rfl,_,_,rfl,rfl,⟨by decide,by decide⟩,?_⟩
     refine done _ _ _ (fun b' o' hb' e'=>by rw [aI hb'];exact s6 b' o' (k5 b' o' hb' e')) aC hw7 ⟨fun x hx=>?_,fun z=>?_⟩
     ·dsimp only
      by_cases z:x=t
      ·rw [if_pos z,z];exact .inr ⟨_,List.getElem_mem hm2,rfl⟩
      ·rw [if_neg z];exact hcut5.1 x hx
     ·rw [hc0 z] at hodd
      exact absurd hodd (by decide)
    ·exact ⟨_,rfl,_,_,rfl,rfl,⟨by decide,by decide⟩,done _ _ _ k5 hd5 hw5 hcut5⟩
   ·exact ⟨_,rfl,_,_,rfl,rfl,⟨by decide,by decide⟩,done _ _ _ k5 hd5 hw5 hcut5⟩
  ·rintro σ H3 ⟨k3,kvs',g',c,v3,hd3,hw3,hcut,hc0,rfl⟩
   rw [hklen,List.take_length] at hw3 hcut
   refine ⟨_,rfl,a,o,kvs,kvs,k3 a _ hDa.symm hfr,hd,?_⟩
   refine q D kvs' g' _ hD (fun b o' e=>?_) (by rw [aI hDa];exact hd3) ?_ hcut
   ·by_cases hb:b=a
    ·subst hb
     rw [aC,<- e,hd]
    ·rw [aI hb]
     exact k3 b o' (aK e hD) (k01 b o' hb e)
   ·have hfa:=k3 a _ hDa.symm hfr
    have key:∀ {l':List (List Nat)} {k':List (Key×V)},aY H3 g' l' k'->aY (upd H3 a (.dK kvs)) g' l' k':=fun {l' k'} h=>by
     induction h with
     | nil=>exact .nil
     | @cons o' b' _ _ e1 _ ih=>exact .cons (by rw [aI (fun z=>by rw [z,hfa] at e1;cases e1)];exact e1) ih
    exact key hw3
def oU (K:PySem.W.Frag):Sp:=fun vs H Q _=>∃ (a:Addr) (ns:List Int) (k:Nat),vs=[.ref a,.int (k:Nat)]∧SqL K H a (ns.map V.int)∧Q (.int (ns.getD k 0)) H
theorem nJ {f:Addr}{fd:FuncData}(F:Fun K "_law_cell_at" "_law_cell_at" dF f fd)(tt:Txt K mg ad):cT P w K mg base (CX1 P w) 1 f fd ["script", "k"] (oU K):=by
 refine F.okN nI (fun vs H Q E h=>?_) (fun cdv A outer s H vs Q E hr h=>?_)
 ·obtain ⟨a,ns,k,rfl,_⟩:=h
  rfl
 ·obtain ⟨a,ns,k,rfl,hS,q⟩:=h
  refine ⟨_,(aB (cL (aQ uR (pv 1) (aM aP (by rfl) tt.b_len PySem.boot_len (aA (pv 0) aD)) (bF _)) (aF (bL (eS cX (pv 0) (pv 1) (fun _ _=>rfl)))) bD)
   (aF (bL aG))),?_⟩
  (try rw [eK]);(try rw [cxK1])
  refine ⟨_,rfl,_,rfl,a,_,rfl,.inl hS,_,_,rfl,rfl,_,rfl,?_⟩
  rw [List.length_map]
  refine fL (fun h0=>?_) (fun h0=>?_)
  ·have h1:k<ns.length:=by have:=of_decide_eq_true h0;omega
   rw [List.getD_eq_getElem?_getD,List.getElem?_eq_getElem h1] at q
   exact ⟨_,rfl,_,rfl,a,_,_,_,rfl,rfl,hS,dC (by rw [List.getElem?_map,List.getElem?_eq_getElem h1];rfl),q⟩
  ·have h1:¬ k<ns.length:=fun z=>h0 (decide_eq_true (by omega))
   rw [List.getD_eq_getElem?_getD,List.getElem?_eq_none (by omega)] at q
   exact q
theorem Gs {s:Int}(h0:0<=s)(h1:s<6):∃ c,atI [97,98,99,100,101,102] s=some c∧97<=c∧c<103:=by
 obtain ⟨m,hm⟩:=Int.eq_ofNat_of_zero_le h0
 have hm':s=(m:Int):=hm
 subst hm'
 exact ⟨97+m,dC (Py (by omega)),by omega,by omega⟩
def WL (ls:List (List Nat))(n:Nat):Prop:=(∀ x∈ls,x.length=n∧Abc x)∧ls.Nodup
theorem WL.sub {ls ls':List (List Nat)}{n:Nat}(h:WL ls n)(s:ls'.Sublist ls):WL ls' n:=⟨fun x hx=>h.1 x (s.subset hx),h.2.sublist s⟩
theorem WL.snoc {ls:List (List Nat)}{n:Nat}{t:List Nat}(h:WL ls n)(ht:t.length=n∧Abc t)(hn:¬ t∈ls):WL (ls++[t]) n:=by
 refine ⟨fun x hx=>?_,List.nodup_append.mpr ⟨h.2,by simp,fun a ha b hb ee=>hn ?_⟩⟩
 ·rcases List.mem_append.mp hx with z | z
  ·exact h.1 x z
  ·have e:x=t:=by simpa using z
   subst e
   exact ht
 ·have hb':b=t:=by simpa using hb
  rw [<- hb',<- ee]
  exact ha
theorem uZ {k c:Nat}(h:c∈([97,98,99,100,101,102]:List Nat).take k):97<=c∧c<103:=by
 have:=List.mem_of_mem_take h
 simp at this
 omega
def xY (K:PySem.W.Frag):Sp:=fun vs H Q _=>∃ (c:Addr) (ns:List Int) (k:Nat) (f0:List Nat),vs=[.ref c,.int (k:Nat),T f0]∧SqL K H c (ns.map V.int)∧(ns.length<=63∧k<=6∧f0.length<=10)∧Abc f0 ∧
 ∀ (D:Addr) (ls:List (List Nat)) (H':Hp),aN H H'->H' D=some (.lst (ls.map T))->WL ls (f0.length+1)->ls.length<=ns.length->Q (.ref D) H'
theorem rY {f:Addr}{fd:FuncData}(F:Fun K "_law_walk" "_law_walk" dW f fd)(tt:Txt K mg ad):cT P w K mg base (CX1 P w) 1 f fd ["cells", "kinds", "first"] (xY K):=by
 refine F.okN dJ (fun vs H Q E h=>?_) (fun cdv A outer s H vs Q E hr h=>?_)
 ·obtain ⟨c,ns,k,f0,rfl,_⟩:=h
  rfl
 ·obtain ⟨c,ns,k,f0,rfl,hS,hb,hf0,q⟩:=h
  have hs:sizeLine=16777216:=sizeLine_eq
  have hnl:(ns.map V.int).length=ns.length:=List.length_map ..
  refine ⟨_,(aB (aJ (i:=3) dJ.nd rfl (Or.inr rfl) (dX aD))
   (aB (aJ (i:=4) dJ.nd rfl (Or.inr rfl) (pv 2))
   (aB (dA PassesOwn.never rfl (cD (pv 0)) (bS (i:=5) dJ.nd rfl (Or.inl rfl)) (aB (uP (i:=6) oJ rfl (yI (bE kJ (cS [97,98,99,100,101,102] (by decide +kernel)) bT (bQ (pv 1)))) (fun cl C s' H' fp=>(aQ (qE K rfl) (aL jF (pv 5) (pv 0)) (pv 4) (by with_unfolding_all rfl))) (fun cl C s' H' fp=>(aL jF (pv 5) (pv 0))) dJ.nd rfl rfl)
   (aB (cL (aQ eI (aM aP (by rfl) tt.b_len PySem.boot_len (aA (pv 6) aD)) aG (bF _)) (aF Fp) bD)
   (aB (aJ (i:=7) dJ.nd rfl (Or.inl rfl) (eS cX (pv 6) (aL cM (pv 5) (aM aP (by rfl) tt.b_len PySem.boot_len (aA (pv 6) aD))) (fun _ _=>rfl)))
   (aB (fO (uG PySem.F.plainAttrs_list PySem.F.slot_list_append PySem.F.type_list_append gA (pv 3) (aA (pv 7) aD)))
   (aF (aJ (i:=4) dJ.nd rfl (Or.inr rfl) (bE kJ (pv 7) (bQ aG) bT))))))))
   (aF (bL (pv 3)))))),?_⟩
  (try rw [eK]);(try rw [cxK1])
  refine ⟨(by show 0<=sizeLine;omega),fun D hD=>?_⟩
  have s0:=aH (o:=.lst []) hD
  refine ⟨_,rfl,?_⟩
  refine ⟨_,rfl,c,rfl,⟨_,s0.seq hS⟩,?_⟩
  refine dS (K:=K) (a:=c) (xs:=ns.map V.int) (fun i σ H2=>aN H H2∧∃ (ls:List (List Nat)) (hh:List Nat) (v5 v6 v7:Option V),H2 D=some (.lst (ls.map T))∧WL ls (f0.length+1)∧ls.length<=i∧hh.length=f0.length∧Abc hh∧σ=[some (.ref c),some (.int (k:Nat)),some (T f0),some (.ref D),some (T hh),v5,v6,v7])
   ⟨s0,[],f0,none,none,none,aC,⟨fun x hx=>(by simp at hx),List.nodup_nil⟩,Nat.le_refl _,rfl,hf0,rfl⟩ (fun i σ H2 _ h=>h.1.seq hS) ?_ ?_
  ·rintro i y σ H2 hi ⟨s2,ls,hh,v5,v6,v7,hd,hwl,hl,hhl,hab,rfl⟩
   have hi63:i<ns.length:=by have:=(List.getElem?_eq_some_iff.mp hi).1;omega
   obtain ⟨z,rfl⟩:∃ z,y=V.int z:=by
    obtain ⟨z,_,e⟩:=List.mem_map.mp (List.mem_of_getElem? hi)
    exact ⟨z,e.symm⟩
   refine ⟨_,rfl,_,rfl,_,rfl,(by show 6<=sizeLine;omega),?_⟩
   have ec:gG [97,98,99,100,101,102] none (some ((k:Nat):Int))=([97,98,99,100,101,102]:List Nat).take k:=qK _ _
   rw [ec]
   refine ⟨_,rfl,?_⟩
   generalize hsg:([97,98,99,100,101,102]:List Nat).take k=sg
   have hsgl:sg.length<=6:=by rw [<- hsg,List.length_take];exact Nat.min_le_right _ _
   have hsga:∀ c∈sg,97<=c∧c<103:=fun c hc=>uZ (by rw [hsg];exact hc)
   refine Go (vs:=(sg.map fun c=>[c]).map T) (fun v=>!decide (hh++unT v∈ls)) (fun v=>T (hh++unT v)) oB (by rw [List.length_map,List.length_map];omega) (fun v H3 hv s3 N hN=>?_) (fun v H3 hv hp s3 N hN=>?_) fun D1 H3 hD1 s3 hd3=>?_
   ·obtain ⟨l,hl',rfl⟩:=List.mem_map.mp hv
    obtain ⟨ch,hch,rfl⟩:=List.mem_map.mp hl'
    have g:=hN H3 (aN.refl _)
    rw [fH] at g
    refine ⟨_,rfl,_,rfl,_,rfl,_,rfl,(by show hh.length+1<=sizeLine;omega),_,rfl,D,_,rfl,.inl (SqL.of (s3 D _ hd)),rfl,jA ls,_,rfl,?_⟩
    show N (!inV (T (hh++[ch])) (ls.map T)) H3
    rw [uM]
    exact g
   ·obtain ⟨l,hl',rfl⟩:=List.mem_map.mp hv
    obtain ⟨ch,hch,rfl⟩:=List.mem_map.mp hl'
    have g:=hN H3 (aN.refl _)
    rw [fH] at g
    exact ⟨_,rfl,_,rfl,_,rfl,_,rfl,(by show hh.length+1<=sizeLine;omega),g⟩
   obtain ⟨fr,hfr,hfm⟩:∃ fr:List (List Nat),(((sg.map fun c=>[c]).map T).filter (fun v=>!decide (hh++unT v∈ls))).map (fun v=>T (hh++unT v))=fr.map T∧∀ t∈fr,(t.length=f0.length+1∧Abc t)∧¬ t∈ls:=by
    refine ⟨((sg.map fun c=>[c]).filter fun l=>!decide (hh++l∈ls)).map fun l=>hh++l,?_,fun t ht=>?_⟩
    ·rw [show ((sg.map fun c=>[c]).map T).filter (fun v=>!decide (hh++unT v∈ls))=((sg.map fun c=>[c]).filter fun l=>!decide (hh++l∈ls)).map T from kE (p:=fun l=>!decide (hh++l∈ls)) _,iC (f:=fun l=>T (hh++l)),List.map_map]
     rfl
    ·obtain ⟨l,hl',rfl⟩:=List.mem_map.mp ht
     obtain ⟨h1,h2⟩:=List.mem_filter.mp hl'
     obtain ⟨ch,hch,rfl⟩:=List.mem_map.mp h1
     refine ⟨⟨by rw [List.length_append,hhl];rfl,fun d hd'=>?_⟩,fun z=>by rw [decide_eq_true z] at h2;cases h2⟩
     rcases List.mem_append.mp hd' with g | g
     ·exact hab d g
     ·have e:d=ch:=by simpa using g
      subst e
      exact hsga d hch
   rw [hfr] at hd3
   have hfl:(fr.map T).length=fr.length:=List.length_map ..
   refine ⟨_,rfl,D1,_,rfl,.inl (SqL.of hd3),_,rfl,_,rfl,_,rfl,?_⟩
   rw [hfl]
   refine fL (fun h0=>?_) (fun h0=>?_)
   ·exact ⟨_,rfl,q D ls H3 (s2.trans s3) (s3 D _ hd) hwl (by omega)⟩
   have hf0:0<fr.length:=by
    rcases Nat.eq_zero_or_pos fr.length with g | g
    ·exact absurd (decide_eq_true (by rw [g];rfl)) h0
    ·exact g
   have z0:=Int.emod_nonneg z (show ((fr.length:Nat):Int)≠0 by omega)
   have z1:=Int.emod_lt_of_pos z (show (0:Int)<((fr.length:Nat):Int) by omega)
   obtain ⟨m,hm,hml⟩:∃ m:Nat,z % ((fr.length:Nat):Int)=(m:Int)∧m<fr.length:=⟨(z % ((fr.length:Nat):Int)).toNat,by omega,by omega⟩
   obtain ⟨t,ht⟩:∃ t,fr[m]?=some t:=⟨_,List.getElem?_eq_getElem hml⟩
   obtain ⟨htn,htl⟩:=hfm t (List.mem_of_getElem? ht)
   refine ⟨_,rfl,_,rfl,_,rfl,D1,_,rfl,.inl (SqL.of hd3),_,_,rfl,rfl,(by show (0:Int)<(((fr.map T).length:Nat):Int);omega),D1,_,_,_,rfl,rfl,SqL.of hd3,(by rw [hfl,hm];exact dC (by rw [List.getElem?_map,ht];rfl)),?_⟩
   refine ⟨_,rfl,.inl ⟨rfl,_,SqL.of (s3 D _ hd)⟩,_,rfl,D,_,_,rfl,rfl,s3 D _ hd,(by rw [List.length_map];omega),?_⟩
   have ed:gG t (some 1) none=t.drop 1:=gU (k:=1) (by omega)
   refine ⟨_,rfl,_,rfl,_,rfl,(by omega),?_⟩
   refine ⟨(fun b o e=>by rw [aI (aK e hD)];exact (s2.trans s3) b o e),ls++[t],t.drop 1,some (.int z),some (.ref D1),some (T t),by rw [List.map_append];exact aC,hwl.snoc htn htl,by rw [List.length_append,List.length_singleton];omega,by rw [List.length_drop];omega,fun d hd'=>htn.2 d (List.mem_of_mem_drop hd'),?_⟩
   rw [<- ed]
   rfl
  ·rintro σ H2 ⟨s2,ls,hh,v5,v6,v7,hd,hwl,hl,hhl,hab,rfl⟩
   exact ⟨_,rfl,q D ls H2 s2 hd hwl (by omega)⟩
theorem Cf {ns:List Int}{lo hi:Option Int}:∃ ms:List Int,eC (ns.map V.int) lo hi=ms.map V.int:=by
 refine ⟨(ns.drop (HT.sIx ns.length 0 lo)).take (HT.sIx ns.length ns.length hi-HT.sIx ns.length 0 lo),?_⟩
 rw [eC,List.length_map,List.map_take,List.map_drop]
theorem uC {xs:List V}{a b:Nat}:(eC xs (some (a:Int)) (some (b:Int))).length<=b-a:=by
 unfold eC
 rw [HT.fE,HT.fE,List.length_take,List.length_drop]
 omega
theorem Jt {l:List Int}{lo hi:Int}(h:∀ x∈l,lo<=x∧x<=hi){z:Int}(h0:0<=z)(h1:z<l.length):∃ v:Int,atI (l.map V.int) z=some (.int v)∧lo<=v∧v<=hi:=by
 obtain ⟨m,rfl⟩:∃ m:Nat,z=(m:Int):=⟨z.toNat,by omega⟩
 have hm:m<l.length:=by omega
 obtain ⟨a,b⟩:=h _ (List.getElem_mem hm)
 exact ⟨l[m],dC (by rw [List.getElem?_map,List.getElem?_eq_getElem hm];rfl),a,b⟩
theorem Bw {ls:List (List Nat)}:eC (ls.map T) none (some (-1))=(ls.take (ls.length-1)).map T:=by
 unfold eC
 rw [HT.fA,List.drop_zero,Nat.sub_zero,List.length_map,List.map_take]
 show (ls.map T).take (if (-1:Int)<0 then ((-1:Int)+(ls.length:Int)).toNat else min (-1:Int).toNat ls.length)=_
 rw [if_pos (by decide),show ((-1:Int)+(ls.length:Int)).toNat=ls.length-1 by omega]
theorem Ka (n:Nat):(Wd.rep n [97]).length=n∧Abc (Wd.rep n [97]):=by
 refine ⟨by rw [Wd.yZ];show n*1=n;omega,fun c hc=>?_⟩
 unfold Wd.rep at hc
 obtain ⟨l,h1,h2⟩:=List.mem_flatten.mp hc
 rw [List.eq_of_mem_replicate h1] at h2
 have e:c=97:=by simpa using h2
 omega
theorem WL.one {n:Nat}{t:List Nat}(h:t.length=n∧Abc t):WL [t] n:=⟨fun x hx=>by rw [List.mem_singleton.mp hx];exact h,by simp⟩
def pC (K:PySem.W.Frag):Sp:=fun vs H Q _=>∃ (a:Addr) (ns:List Int),vs=[.ref a,.int 0,.int 11]∧SqL K H a (ns.map V.int)∧∀ (D:Addr) (ls:List (List Nat)) (n:Nat) (H':Hp),aN H H'->H' D=some (.lst (ls.map T))->WL ls n->(1<=n∧n<=5)->ls≠[]->ls.length<=11->Q (.ref D) H'
theorem kF {f:Addr}{fd:FuncData}(F:Fun K "_law_ring_words" "_law_ring_words" cH f fd)(tt:Txt K mg ad)(C__law_cell_at:Cal P w K mg base (CX1 P w) "_law_cell_at" 1 ["script", "k"] (oU K))(C__law_walk:Cal P w K mg base (CX1 P w) "_law_walk" 1 ["cells", "kinds", "first"] (xY K)) :
  cT P w K mg base (CX1 P w) 2 f fd ["script", "at", "most"] (pC K):=by
 refine F.okN aW (fun vs H Q E h=>?_) (fun cdv A outer s H vs Q E hr h=>?_)
 ·obtain ⟨a,ns,rfl,_⟩:=h
  rfl
 ·obtain ⟨a,ns,rfl,hS,q⟩:=h
  have hs:sizeLine=16777216:=sizeLine_eq
  obtain ⟨nz,hnz,n1,n5⟩:=Jt (l:=[2,3,1,4,2,3,5]) (lo:=1) (hi:=5) (by decide) (Int.emod_nonneg (ns.getD 0 0) (show (7:Int)≠0 by decide)) (Int.emod_lt_of_pos _ (show (0:Int)<7 by decide))
  obtain ⟨kz,hkz,k1,k6⟩:=Jt (l:=[2,3,2,2,4,6,2,1]) (lo:=1) (hi:=6) (by decide) (Int.emod_nonneg (ns.getD 1 0) (show (8:Int)≠0 by decide)) (Int.emod_lt_of_pos _ (show (0:Int)<8 by decide))
  obtain ⟨n,rfl⟩:∃ n:Nat,nz=(n:Int):=⟨nz.toNat,by omega⟩
  obtain ⟨k,rfl⟩:∃ k:Nat,kz=(k:Int):=⟨kz.toNat,by omega⟩
  refine ⟨_,(aB (aJ (i:=3) aW.nd rfl (Or.inl rfl) (eS cX (dX (aA aG (aA aG (aA aG (aA aG (aA aG (aA aG (aA aG aD)))))))) (aL cM (aU C__law_cell_at hr bU (aA (pv 0) (aA (pv 1) aD))) aG) (fun _ _=>rfl)))
   (aB (aJ (i:=4) aW.nd rfl (Or.inl rfl) (eS cX (dX (aA aG (aA aG (aA aG (aA aG (aA aG (aA aG (aA aG (aA aG aD))))))))) (aL cM (aU C__law_cell_at hr bU (aA (pv 0) (aA (aL dR (pv 1) aG) aD))) aG) (fun _ _=>rfl)))
   (aB (aJ (i:=5) aW.nd rfl (Or.inl rfl) (aU C__law_cell_at hr bU (aA (pv 0) (aA (aL dR (pv 1) aG) aD))))
   (aB (aJ (i:=6) aW.nd rfl (Or.inl rfl) (cS [] (by decide +kernel)))
   (aB (dA PassesOwn.never rfl (gC (by rfl) tt.b_range (aA (aL jE (pv 3) aG) aD)) (bS (i:=7) aW.nd rfl (Or.inl rfl)) (aB (aJ (i:=6) aW.nd rfl (Or.inl rfl) (aL jF (pv 6) (eS Pc (cS [97,98,99,100,101,102] (by decide +kernel)) (aL cM (pv 5) (pv 4)) (fun _ _=>rfl))))
   (aF (aJ (i:=5) aW.nd rfl (Or.inl rfl) (aL fP (pv 5) (pv 4))))))
   (aB (aJ (i:=8) aW.nd rfl (Or.inl rfl) (aU C__law_walk hr bU (aA (bE eP (pv 0) (bQ (aL dR (pv 1) aG)) (bQ (aL dR (aL dR (pv 1) aG) (pv 2)))) (aA (pv 4) (aA (pv 6) aD)))))
   (aB (lD PassesOwn.never (PW.pt (oC (aQ lJ (aM aP (by rfl) tt.b_len PySem.boot_len (aA (pv 8) aD)) aG (bF _)) (kP (aQ nW (bE kJ (eS cX (pv 8) (lP iH aG) (fun _ _=>rfl)) (bQ aG) bT) (pv 6) (bF _))))) (aF (aJ (i:=8) aW.nd rfl (Or.inl rfl) (bE eP (pv 8) bT (bQ (lP iH aG))))))
   (aB (cL (aQ eI (aM aP (by rfl) tt.b_len PySem.boot_len (aA (pv 8) aD)) aG (bF _)) (aF (aJ (i:=8) aW.nd rfl (Or.inl rfl) (dX (aA (aL vN (cS [97] (by decide +kernel)) (pv 3)) aD)))) bD)
   (aF (bL (pv 8))))))))))),?_⟩
  (try rw [eK]);(try rw [cxK1])
  refine ⟨(by show 7<=sizeLine;omega),fun p1 hp1=>?_⟩
  have s1:=aH (o:=.lst [.int 2,.int 3,.int 1,.int 4,.int 2,.int 3,.int 5]) hp1
  refine ⟨_,rfl,_,rfl,a,ns,0,rfl,s1.seq hS,_,_,rfl,rfl,(by show (0:Int)<7;decide),p1,_,_,_,rfl,rfl,SqL.of aC,hnz,?_⟩
  refine ⟨(by show 8<=sizeLine;omega),fun p2 hp2=>?_⟩
  have s2:=s1.trans (aH (o:=.lst [.int 2,.int 3,.int 2,.int 2,.int 4,.int 6,.int 2,.int 1]) hp2)
  refine ⟨_,rfl,_,rfl,_,_,rfl,rfl,a,ns,1,rfl,s2.seq hS,_,_,rfl,rfl,(by show (0:Int)<8;decide),p2,_,_,_,rfl,rfl,SqL.of aC,hkz,?_⟩
  obtain ⟨H2,hH2,s2⟩:=Ga s2
  rw [<- hH2]
  refine ⟨_,rfl,_,rfl,_,_,rfl,rfl,a,ns,2,rfl,s2.seq hS,?_⟩
  refine ⟨_,rfl,_,_,rfl,rfl,_,rfl,by omega,by omega,?_⟩
  rw [show (((n:Nat):Int)-1).toNat=n-1 by omega]
  refine gB (fun i σ H3=>H2=H3∧∃ (d:Int) (t:List Nat) (v7:Option V),t.length=i∧Abc t∧σ=[some (.ref a),some (.int 0),some (.int 11),some (.int (n:Nat)),some (.int (k:Nat)),some (.int d),some (T t),v7,none])
   ⟨rfl,ns.getD 2 0,[],none,rfl,(fun c hc=>by simp at hc),rfl⟩ ?_ ?_
  ·rintro i σ H3 hi ⟨rfl,d,t,v7,ht,hab,rfl⟩
   have z0:=Int.emod_nonneg d (show ((k:Nat):Int)≠0 by omega)
   have z1:=Int.emod_lt_of_pos d (show (0:Int)<((k:Nat):Int) by omega)
   obtain ⟨c,hc,c0,c1⟩:=Gs z0 (by omega)
   refine ⟨_,rfl,_,rfl,_,rfl,_,_,rfl,rfl,(by show (0:Int)<((k:Nat):Int);omega),_,rfl,_,rfl,(by show 6<=sizeLine;omega),c,hc,_,rfl,_,rfl,(by show t.length+1<=sizeLine;omega),?_⟩
   refine ⟨_,rfl,_,rfl,_,_,rfl,rfl,⟨by omega,by omega⟩,?_⟩
   refine ⟨rfl,d/((k:Nat):Int),t++[c],some (.int (0+(i:Int))),by rw [List.length_append,ht];rfl,fun e he=>?_,rfl⟩
   rcases List.mem_append.mp he with g | g
   ·exact hab e g
   ·have e':e=c:=by simpa using g
    subst e'
    exact ⟨c0,c1⟩
  ·rintro σ H3 ⟨rfl,d,f0,v7,hf,hab,rfl⟩
   obtain ⟨ds,hds⟩:∃ ds:List Int,eC (ns.map V.int) (some ((3:Nat):Int)) (some ((14:Nat):Int))=ds.map V.int:=Cf
   have hdl:ds.length<=11:=by
    have e:=congrArg List.length hds
    have e2:=uC (xs:=ns.map V.int) (a:=3) (b:=14)
    rw [List.length_map] at e
    omega
   refine ⟨_,rfl,_,rfl,_,_,rfl,rfl,_,rfl,_,rfl,_,_,rfl,rfl,_,rfl,_,_,rfl,rfl,_,rfl,a,_,rfl,s2.seq hS,fun p4 hp4=>?_⟩
   rw [show eC (ns.map V.int) (some ((0:Int)+3)) (some ((0:Int)+3+11))=ds.map V.int from hds]
   have s4:=s2.trans (aH (o:=.lst (ds.map V.int)) hp4)
   refine ⟨_,rfl,_,rfl,p4,ds,k,f0,rfl,SqL.of aC,⟨by omega,by omega,by omega⟩,hab,fun D ls H5 s5 hd hwl hl=>?_⟩
   have hn':f0.length+1=n:=by omega
   rw [hn'] at hwl
   have s05:=s4.trans s5
   refine ⟨fun m σ H6=>∃ (p:Addr) (ls':List (List Nat)),m=ls'.length∧aN H H6∧H6 p=some (.lst (ls'.map T))∧WL ls' n∧ls'.length<=11∧σ=[some (.ref a),some (.int 0),some (.int 11),some (.int (n:Nat)),some (.int (k:Nat)),some (.int d),some (T f0),v7,some (.ref p)],⟨ls.length,D,ls,rfl,s05,hd,hwl,by omega,rfl⟩,?_⟩
   rintro m σ H6 ⟨p,ls',hm,s6,hd6,hw6,hl6,rfl⟩
   have hml:(ls'.map T).length=ls'.length:=List.length_map ..
   have fin:∀ (D:Addr) (ls2:List (List Nat)) (H':Hp),aN H H'->H' D=some (.lst (ls2.map T))->WL ls2 n->ls2≠[]->ls2.length<=11->Q (.ref D) H':=fun D ls2 H' h1 h2 h3 h4 h5=>q D ls2 n H' h1 h2 h3 ⟨by omega,by omega⟩ h4 h5
   refine ⟨_,rfl,p,_,rfl,.inl (SqL.of hd6),_,_,rfl,rfl,_,rfl,?_⟩
   rw [hml]
   refine fL (fun h0=>?a) (fun h0=>?b)
   case' a =>
    have h0':0<ls'.length:=by have:=of_decide_eq_true h0;omega
    obtain ⟨t,ht⟩:∃ t,ls'[ls'.length-1]?=some t:=⟨_,List.getElem?_eq_getElem (by omega)⟩
    have htl:=(hw6.1 t (List.mem_of_getElem? ht)).1
    have hat:atI (ls'.map T) (-1)=some (T t):=by
     show (ixN (ls'.map T).length (-1)).bind _=_
     rw [hml]
     unfold ixN
     rw [if_neg (by decide),if_pos (by omega),show ((-1:Int)+ls'.length).toNat=ls'.length-1 by omega]
     show (ls'.map T)[ls'.length-1]?=_
     rw [List.getElem?_map,ht]
     rfl
    refine ⟨_,rfl,_,rfl,p,_,_,_,rfl,rfl,SqL.of hd6,hat,_,rfl,_,rfl,(by omega),_,rfl,_,rfl,_,rfl,_,rfl,?_⟩
    refine fL (fun h1=>?a1) (fun h1=>?a2)
   case a1 =>
    refine ⟨_,fun σ' H' z=>z,?_⟩
    refine ⟨_,rfl,_,rfl,_,rfl,p,_,rfl,SqL.of hd6,fun p7 hp7=>?_⟩
    rw [show eC (ls'.map T) none (some (-(1:Int)))=(ls'.take (ls'.length-1)).map T from Bw]
    have htk:(ls'.take (ls'.length-1)).length=ls'.length-1:=by rw [List.length_take];omega
    exact ⟨ls'.length-1,by omega,p7,ls'.take (ls'.length-1),htk.symm,s6.trans (aH hp7),aC,hw6.sub (List.take_sublist _ _),by omega,rfl⟩
   all_goals
    refine ⟨_,rfl,p,_,rfl,.inl (SqL.of hd6),_,rfl,_,rfl,_,rfl,?_⟩
    rw [hml]
    refine fL (fun h2=>?_) (fun h2=>?_)
    ·refine ⟨_,rfl,_,rfl,n,rfl,⟨by omega,by show n*1<=sizeLine;omega⟩,(by show 1<=sizeLine;omega),fun p7 hp7=>?_⟩
     exact ⟨_,rfl,fin p7 [Wd.rep n [97]] _ (s6.trans (aH hp7)) aC (WL.one (Ka n)) (by simp) (by show 1<=11;decide)⟩
    ·exact ⟨_,rfl,fin p ls' H6 s6 hd6 hw6 (fun z=>h2 (decide_eq_true (by rw [z];rfl))) hl6⟩
def ext (ws:List (List Nat))(sg:List Nat):List (List Nat):=ws.flatMap fun w=>sg.map fun c=>w++[c]
theorem Fk (ws:List (List Nat))(w:List Nat)(sg:List Nat):ext (ws++[w]) sg=ext ws sg++sg.map fun c=>w++[c]:=by
 unfold ext
 rw [List.flatMap_append]
 simp
theorem rQ (sg:List Nat):∀ ws:List (List Nat),(ext ws sg).length=ws.length*sg.length
 | []=>by simp [ext]
 | w::ws=>by
  have ih:=rQ sg ws
  unfold ext at ih ⊢
  rw [List.flatMap_cons,List.length_append,ih,List.length_map,List.length_cons,Nat.succ_mul,Nat.add_comm]
theorem zY {ws:List (List Nat)}{sg:List Nat}{x:List Nat}(h:x∈ext ws sg):∃ w∈ws,∃ c∈sg,x=w++[c]:=by
 obtain ⟨w,hw,hx⟩:=List.mem_flatMap.mp h
 obtain ⟨c,hc,e⟩:=List.mem_map.mp hx
 exact ⟨w,hw,c,hc,e.symm⟩
theorem qY {sg:List Nat}(hs:sg.Nodup):∀ {ws:List (List Nat)},ws.Nodup->(ext ws sg).Nodup
 | [],_=>List.nodup_nil
 | w::ws,h=>by
  rw [List.nodup_cons] at h
  have ih:=qY hs h.2
  show (ext (w::ws) sg).Nodup
  have e:ext (w::ws) sg=(sg.map fun c=>w++[c])++ext ws sg:=by unfold ext;rw [List.flatMap_cons]
  rw [e]
  refine List.nodup_append.mpr ⟨?_,ih,fun a ha b hb ee=>h.1 ?_⟩
  ·refine List.pairwise_map.mpr (hs.imp fun hne z=>hne ?_)
   have:=List.append_cancel_left z
   simpa using this
  ·obtain ⟨c,hc,e1⟩:=List.mem_map.mp ha
   obtain ⟨w',hw',c',hc',e2⟩:=zY hb
   have z:w++[c]=w'++[c']:=e1.trans (ee.trans e2)
   have z2:=(List.append_inj' z rfl).1
   rw [z2]
   exact hw'
theorem WL.ext {ws:List (List Nat)}{sg:List Nat}{i:Nat}(h:WL ws i)(hs:sg.Nodup)(ha:∀ c∈sg,97<=c∧c<103):WL (ext ws sg) (i+1):=by
 refine ⟨fun x hx=>?_,qY hs h.2⟩
 obtain ⟨w,hw,c,hc,rfl⟩:=zY hx
 obtain ⟨h1,h2⟩:=h.1 w hw
 refine ⟨by rw [List.length_append,h1];rfl,fun d hd=>?_⟩
 rcases List.mem_append.mp hd with g | g
 ·exact h2 d g
 ·have e:d=c:=by simpa using g
  subst e
  exact ha d hc
def sF:Sp:=fun vs H Q _=>∃ (k n:Nat),vs=[.int (k:Nat),.int (n:Nat)]∧(k<=6∧n<=4)∧∀ (D:Addr) (ls:List (List Nat)) (H':Hp),H D=none->aN H H'->H' D=some (.lst (ls.map T))->WL ls n->ls.length<=2000->Q (.ref D) H'
theorem pZ {f:Addr}{fd:FuncData}(F:Fun K "_law_every" "_law_every" dL f fd)(tt:Txt K mg ad):cT P w K mg base (CX1 P w) 1 f fd ["kinds", "length"] sF:=by
 refine F.okN dP (fun vs H Q E h=>?_) (fun cdv A outer s H vs Q E hr h=>?_)
 ·obtain ⟨k,n,rfl,_⟩:=h
  rfl
 ·obtain ⟨k,n,rfl,hb,q⟩:=h
  have hs:sizeLine=16777216:=sizeLine_eq
  obtain ⟨sg,hsg,hsgl,hsga,hsgn⟩:∃ sg:List Nat,gG [97,98,99,100,101,102] none (some ((k:Nat):Int))=sg∧sg.length<=6∧(∀ c∈sg,97<=c∧c<103)∧sg.Nodup :=
   ⟨_,qK _ _,by rw [List.length_take];exact Nat.min_le_right _ _,fun c hc=>uZ hc,(show ([97,98,99,100,101,102]:List Nat).Nodup by decide).sublist (List.take_sublist _ _)⟩
  refine ⟨_,(aB (aJ (i:=2) dP.nd rfl (Or.inl rfl) (dX (aA (cS [] (by decide +kernel)) aD)))
   (aB (dA PassesOwn.never rfl (gC (by rfl) tt.b_range (aA (pv 1) aD)) (bS (i:=3) dP.nd rfl (Or.inl rfl)) (aB (aJ (i:=4) dP.nd rfl (Or.inl rfl) (dX aD))
   (aB (dA PassesOwn.never rfl (cD (pv 2)) (bS (i:=5) dP.nd rfl (Or.inr rfl)) (aF (fO (uG PySem.F.plainAttrs_list PySem.F.slot_list_extend PySem.F.type_list_extend Cb (pv 4) (aA (eR nN rfl (yI (bE kJ (cS [97,98,99,100,101,102] (by decide +kernel)) bT (bQ (pv 0)))) (fun cl C s' H' fp=>(aL jF (pv 6) (pv 0)))) aD)))))
   (aF (aJ (i:=2) dP.nd rfl (Or.inl rfl) (pv 4))))))
   (aF (bL (pv 2))))),?_⟩
  (try rw [eK]);(try rw [cxK1])
  refine ⟨(by show 1<=sizeLine;omega),fun p0 hp0=>?_⟩
  refine ⟨_,rfl,_,rfl,by omega,by omega,?_⟩
  rw [Int.toNat_natCast]
  refine gB (fun i σ H2=>aN H H2∧∃ (p:Addr) (ls:List (List Nat)) (v3 v4 v5:Option V),H p=none∧H2 p=some (.lst (ls.map T))∧WL ls i∧ls.length<=6 ^ i∧σ=[some (.int (k:Nat)),some (.int (n:Nat)),some (.ref p),v3,v4,v5])
   ⟨aH hp0,p0,[[]],none,none,none,hp0,aC,⟨fun x hx=>by rw [List.mem_singleton.mp hx];exact ⟨rfl,fun c hc=>by simp at hc⟩,by simp⟩,(by decide),rfl⟩ ?_ ?_
  ·rintro i σ H2 hi ⟨s2,p,ls,v3,v4,v5,hpn,hd,hwl,hl,rfl⟩
   have hl3:ls.length<=216:=Nat.le_trans hl (Nat.pow_le_pow_right (by decide) (show i<=3 by omega))
   refine ⟨(by show 0<=sizeLine;omega),fun D hD=>?_⟩
   have s3:=aH (o:=.lst []) hD
   refine ⟨_,rfl,p,rfl,⟨_,SqL.of (s3 p _ hd)⟩,?_⟩
   refine dS (K:=K) (a:=p) (xs:=ls.map T) (fun j σ H3=>aN H2 H3∧∃ (v5:Option V),H3 D=some (.lst ((ext (ls.take j) sg).map T))∧σ=[some (.int (k:Nat)),some (.int (n:Nat)),some (.ref p),some (.int (0+(i:Int))),some (.ref D),v5])
    ⟨s3,v5,aC,rfl⟩ (fun j σ H3 _ h=>SqL.of (h.1 p _ hd)) ?_ ?_
   ·rintro j y σ H3 hj ⟨s4,v5,hd4,rfl⟩
    obtain ⟨wd,hwd,rfl⟩:∃ wd,ls[j]?=some wd∧y=T wd:=by
     rw [List.getElem?_map] at hj
     obtain ⟨x,h1,h2⟩:=Option.map_eq_some_iff.mp hj
     exact ⟨x,h1,h2.symm⟩
    have hwdl:=(hwl.1 wd (List.mem_of_getElem? hwd)).1
    refine ⟨_,rfl,.inl ⟨rfl,_,SqL.of hd4⟩,_,rfl,_,rfl,_,rfl,(by show 6<=sizeLine;omega),?_⟩
    rw [hsg]
    refine ⟨_,rfl,?_⟩
    refine jZ (vs:=(sg.map fun c=>[c]).map T) (fun v=>T (wd++unT v)) oB (by rw [List.length_map,List.length_map];omega) (fun v H5 hv s5 N hN=>?_) fun D1 H5 hD1 s5 hd5=>?_
    ·obtain ⟨l,hl',rfl⟩:=List.mem_map.mp hv
     obtain ⟨ch,hch,rfl⟩:=List.mem_map.mp hl'
     have g:=hN H5 (aN.refl _)
     rw [fH] at g
     exact ⟨_,rfl,_,rfl,_,rfl,_,rfl,(by show wd.length+1<=sizeLine;omega),g⟩
    rw [iC (f:=fun l=>T (wd++l)),List.map_map] at hd5
    have e5:sg.map ((fun l=>T (wd++l))∘fun c=>[c])=(sg.map fun c=>wd++[c]).map T:=by rw [List.map_map];rfl
    rw [e5] at hd5
    have hjl:j<ls.length:=(List.getElem?_eq_some_iff.mp hwd).1
    have el:=rQ sg (ls.take j)
    have htk:(ls.take j).length<=216:=by rw [List.length_take];omega
    have hm:(ls.take j).length*sg.length<=216*6:=Nat.mul_le_mul htk hsgl
    refine ⟨D,D1,_,_,rfl,rfl,s5 D _ hd4,hd5,(by rw [List.length_map,List.length_map,List.length_map,el];omega),?_⟩
    refine ⟨(fun b o e=>by rw [aI (aK e hD)];exact (s4.trans s5) b o e),some (T wd),?_,rfl⟩
    rw [List.take_add_one,hwd,show (some wd).toList=[wd] from rfl,Fk,List.map_append]
    exact aC
   ·rintro σ H3 ⟨s4,v5',hd4,rfl⟩
    rw [List.length_map,List.take_length] at hd4
    refine ⟨_,rfl,?_⟩
    have hDn:H D=none:=by
     cases e:H D with
     | none=>rfl
     | some o=>exact absurd ((s2 D o e).symm.trans hD) (fun z=>nomatch z)
    refine ⟨s2.trans s4,D,ext ls sg,some (.int (0+(i:Int))),some (.ref D),v5',hDn,hd4,hwl.ext hsgn hsga,?_,rfl⟩
    rw [rQ,Nat.pow_succ]
    exact Nat.mul_le_mul hl hsgl
  ·rintro σ H2 ⟨s2,p,ls,v3,v4,v5,hpn,hd,hwl,hl,rfl⟩
   have hl4:ls.length<=1296:=Nat.le_trans hl (Nat.pow_le_pow_right (by decide) (show n<=4 by omega))
   exact ⟨_,rfl,q p ls H2 hpn s2 hd hwl (by omega)⟩
def rT:Sp:=fun vs H Q _=>∃ (cell:Int),vs=[.int cell,.int 11]∧∀ (D:Addr) (ls:List (List Nat)) (n:Nat) (H':Hp),aN H H'->H' D=some (.lst (ls.map T))->WL ls n->(1<=n∧n<=5)->ls≠[]->ls.length<=11->Q (.ref D) H'
theorem jV {f:Addr}{fd:FuncData}(F:Fun K "_law_digit_words" "_law_digit_words" cF f fd)(tt:Txt K mg ad)(C__law_every:Cal P w K mg base (CX1 P w) "_law_every" 1 ["kinds", "length"] sF):cT P w K mg base (CX1 P w) 2 f fd ["cell", "most"] rT:=by
 refine F.okN bC (fun vs H Q E h=>?_) (fun cdv A outer s H vs Q E hr h=>?_)
 ·obtain ⟨cell,rfl,_⟩:=h
  rfl
 ·obtain ⟨cell,rfl,q⟩:=h
  have hs:sizeLine=16777216:=sizeLine_eq
  obtain ⟨m,hm,hm9⟩:∃ m:Nat,cell % 9=(m:Int)∧m<9:=⟨(cell % 9).toNat,by omega,by omega⟩
  obtain ⟨k,n,hpr,hk,hn⟩:∃ k n:Nat,([(2,2),(2,3),(2,4),(3,2),(3,3),(4,2),(6,1),(6,2),(5,2)]:List (Int×Int))[m]?=some (((k:Nat):Int),((n:Nat):Int))∧(1<=k∧k<=6)∧(1<=n∧n<=4):=by
   match m,hm9 with
   | 0,_=>exact ⟨2,2,rfl,by decide,by decide⟩
   | 1,_=>exact ⟨2,3,rfl,by decide,by decide⟩
   | 2,_=>exact ⟨2,4,rfl,by decide,by decide⟩
   | 3,_=>exact ⟨3,2,rfl,by decide,by decide⟩
   | 4,_=>exact ⟨3,3,rfl,by decide,by decide⟩
   | 5,_=>exact ⟨4,2,rfl,by decide,by decide⟩
   | 6,_=>exact ⟨6,1,rfl,by decide,by decide⟩
   | 7,_=>exact ⟨6,2,rfl,by decide,by decide⟩
   | 8,_=>exact ⟨5,2,rfl,by decide,by decide⟩
  refine ⟨_,(aB (aJ (i:=2) bC.nd rfl (Or.inl rfl) (dX (vP [((_,_,_),(_,_,_),_,_),((_,_,_),(_,_,_),_,_),((_,_,_),(_,_,_),_,_),((_,_,_),(_,_,_),_,_),((_,_,_),(_,_,_),_,_),((_,_,_),(_,_,_),_,_),((_,_,_),(_,_,_),_,_),((_,_,_),(_,_,_),_,_),((_,_,_),(_,_,_),_,_)])))
   (aB (Ma (eS cX (pv 2) (aL cM (pv 0) aG) (fun _ _=>rfl)) (xV rfl (gS (bS (i:=3) bC.nd rfl (Or.inl rfl)) (gS (bS (i:=4) bC.nd rfl (Or.inl rfl)) sB))))
   (aB (aJ (i:=5) bC.nd rfl (Or.inl rfl) (aL fP (pv 0) aG))
   (aB (aJ (i:=6) bC.nd rfl (Or.inl rfl) (dX aD))
   (aB (dA PassesOwn.never rfl (cD (aU C__law_every hr bU (uX (pv 3) (uX (pv 4) aD)))) (bS (i:=7) bC.nd rfl (Or.inl rfl)) (aB (cL (PW.pt (oC (aQ eI (aL cM (pv 5) aG) aG (bF _)) (kP (aQ uR (aM aP (by rfl) tt.b_len PySem.boot_len (uX (pv 6) aD)) (pv 1) (bF _))))) (aF (fO (uG PySem.F.plainAttrs_list PySem.F.slot_list_append PySem.F.type_list_append gA (pv 6) (uX (pv 7) aD)))) bD)
   (aF (aJ (i:=5) bC.nd rfl (Or.inl rfl) (aL fP (pv 5) aG)))))
   (aB (cL (aQ eI (aM aP (by rfl) tt.b_len PySem.boot_len (uX (pv 6) aD)) aG (bF _)) (aF (aJ (i:=6) bC.nd rfl (Or.inl rfl) (dX (Nc (aL vN (cS [97] (by decide +kernel)) (pv 4)) aD)))) bD)
   (aF (bL (pv 6))))))))),?_⟩
  (try rw [eK]);(try rw [cxK1])
  refine qV _ fun vs9 G9 hvl sG9 hv=>?_
  refine ⟨(by rw [hvl];show 9<=sizeLine;omega),fun ps hps=>?_⟩
  obtain ⟨tp,htp,hT⟩:=hv m _ hpr
  have s1:=sG9.trans (aH (o:=.lst vs9) hps)
  have hTp:=aH (o:=.lst vs9) hps tp _ hT
  obtain ⟨H1,hH1,s1,hd1⟩:=sO s1
  rw [<- hH1] at hTp ⊢
  refine ⟨_,rfl,_,rfl,_,_,rfl,rfl,(by show (0:Int)<9;decide),ps,_,_,_,rfl,rfl,SqL.of hd1,(by rw [hm];exact dC htp),tp,_,rfl,SqT.of hTp,rfl,_,_,rfl,_,_,rfl,rfl,?_⟩
  refine ⟨_,rfl,_,_,rfl,rfl,⟨by decide,by decide⟩,?_⟩
  refine ⟨(by show 0<=sizeLine;omega),fun D hD=>?_⟩
  have s2:=s1.trans (aH (o:=.lst []) hD)
  refine ⟨_,rfl,_,rfl,k,n,rfl,⟨by omega,by omega⟩,fun De es He hDe se hde hwe hel=>⟨De,rfl,⟨_,SqL.of hde⟩,?_⟩⟩
  have hDD:De≠D:=fun z=>by rw [z] at hDe;exact absurd (aC.symm.trans hDe) (fun z=>nomatch z)
  have hD0:He D=some (.lst []):=se D _ aC
  have hHn:H D=none:=by
   cases e:H D with
   | none=>rfl
   | some o=>exact absurd ((s1 D o e).symm.trans hD) (fun z=>nomatch z)
  refine dS (K:=K) (a:=De) (xs:=es.map T) (fun i σ H3=>aN H H3∧H3 De=some (.lst (es.map T))∧∃ (ls:List (List Nat)) (pt:Int) (v7:Option V),H3 D=some (.lst (ls.map T))∧ls.Sublist (es.take i)∧ls.length<=11∧σ=[some (.int cell),some (.int 11),some (.ref ps),some (.int (k:Nat)),some (.int (n:Nat)),some (.int pt),some (.ref D),v7])
   ⟨s2.trans se,hde,[],cell/9,none,hD0,List.nil_sublist _,by decide,rfl⟩ (fun i σ H3 _ h=>SqL.of h.2.1) ?_ ?_
  ·rintro i y σ H3 hi ⟨s3,hd3,ls,pt,v7,hdl,hsub,hl,rfl⟩
   obtain ⟨wd,hwd,rfl⟩:∃ wd,es[i]?=some wd∧y=T wd:=by
    rw [List.getElem?_map] at hi
    obtain ⟨x,h1,h2⟩:=Option.map_eq_some_iff.mp hi
    exact ⟨x,h1,h2.symm⟩
   have hml:(ls.map T).length=ls.length:=List.length_map ..
   have etk:es.take (i+1)=es.take i++[wd]:=by rw [List.take_add_one,hwd];rfl
   refine ⟨_,rfl,_,_,rfl,rfl,(by show (0:Int)<2;decide),_,rfl,_,rfl,_,rfl,?_⟩
   refine fL (fun h0=>?_) (fun h0=>?_)
   ·refine ⟨_,rfl,D,_,rfl,.inl (SqL.of hdl),_,rfl,_,_,rfl,rfl,_,rfl,?_⟩
    rw [hml]
    refine fL (fun h1=>?_) (fun h1=>?_)
    ·have h40:ls.length<11:=by have:=of_decide_eq_true h1;omega
     refine ⟨_,rfl,.inl ⟨rfl,_,SqL.of hdl⟩,_,rfl,D,_,_,rfl,rfl,hdl,(by rw [hml];omega),?_⟩
     refine ⟨_,rfl,_,_,rfl,rfl,⟨by decide,by decide⟩,?_⟩
     refine ⟨(fun b o e=>by rw [aI (aK e hHn)];exact s3 b o e),by rw [aI hDD];exact hd3,ls++[wd],pt/2,some (T wd),by rw [List.map_append];exact aC,?_,by rw [List.length_append,List.length_singleton];omega,rfl⟩
     rw [etk]
     exact hsub.append (List.Sublist.refl _)
    ·refine ⟨_,rfl,_,_,rfl,rfl,⟨by decide,by decide⟩,?_⟩
     exact ⟨s3,hd3,ls,pt/2,some (T wd),hdl,by rw [etk];exact hsub.trans (List.sublist_append_left _ _),hl,rfl⟩
   ·refine ⟨_,rfl,_,_,rfl,rfl,⟨by decide,by decide⟩,?_⟩
    exact ⟨s3,hd3,ls,pt/2,some (T wd),hdl,by rw [etk];exact hsub.trans (List.sublist_append_left _ _),hl,rfl⟩
  ·rintro σ H3 ⟨s3,hd3,ls,pt,v7,hdl,hsub,hl,rfl⟩
   rw [List.length_map,List.take_length] at hsub
   have hml:(ls.map T).length=ls.length:=List.length_map ..
   refine ⟨_,rfl,D,_,rfl,.inl (SqL.of hdl),_,rfl,_,rfl,_,rfl,?_⟩
   rw [hml]
   refine fL (fun h2=>?_) (fun h2=>?_)
   ·refine ⟨_,rfl,_,rfl,n,rfl,⟨by omega,by show n*1<=sizeLine;omega⟩,(by show 1<=sizeLine;omega),fun p7 hp7=>?_⟩
    exact ⟨_,rfl,q p7 [Wd.rep n [97]] n _ (s3.trans (aH hp7)) aC (WL.one (Ka n)) ⟨by omega,by omega⟩ (by simp) (by show 1<=11;decide)⟩
   ·exact ⟨_,rfl,q D ls n H3 s3 hdl (hwe.sub hsub) ⟨by omega,by omega⟩ (fun z=>h2 (decide_eq_true (by rw [z];rfl))) hl⟩
theorem Ht (d:Int){n:Nat}(h:0<n):∃ m:Nat,d % ((n:Nat):Int)=(m:Int)∧m<n:=by
 have z0:=Int.emod_nonneg d (show ((n:Nat):Int)≠0 by omega)
 have z1:=Int.emod_lt_of_pos d (show (0:Int)<((n:Nat):Int) by omega)
 exact ⟨(d % ((n:Nat):Int)).toNat,by omega,by omega⟩
theorem nS {α:Type}(l:List α)(m:Nat):(l.take m++l.drop (m+1)).Sublist l:=by
 have h:(l.take m++l.drop (m+1)).Sublist (l.take m++l.drop m):=(List.Sublist.refl _).append (by rw [<- List.drop_drop];exact List.drop_sublist _ _)
 rwa [List.take_append_drop] at h
theorem hJ {ls:List (List Nat)}{k:Nat}(h:k<=ls.length):eC (ls.map T) (some (k:Int)) none=(ls.drop k).map T:=by
 unfold eC
 rw [HT.fE,HT.fA,List.length_map,Nat.min_eq_left h,<- List.map_drop,<- List.map_take,List.take_of_length_le (by rw [List.length_drop];omega)]
theorem nR {ls:List (List Nat)}{k:Nat}(h:k<=ls.length):eC (ls.map T) none (some (k:Int))=(ls.take k).map T:=by
 unfold eC
 rw [HT.fE,HT.fA,List.length_map,Nat.min_eq_left h,List.drop_zero,Nat.sub_zero,List.map_take]
def tK (K:PySem.W.Frag):Sp:=fun vs H Q _=>∃ (a:Addr) (ns:List Int),vs=[.ref a,.int 0,.int 11]∧SqL K H a (ns.map V.int)∧∀ (D:Addr) (ls:List (List Nat)) (n:Nat) (H':Hp),aN H H'->H' D=some (.lst (ls.map T))->WL ls n->(1<=n∧n<=5)->ls≠[]->ls.length<=14->Q (.ref D) H'
theorem kI {f:Addr}{fd:FuncData}(F:Fun K "_law_some_words" "_law_some_words" cI f fd)(tt:Txt K mg ad)(C__law_cell_at:Cal P w K mg base (CX1 P w) "_law_cell_at" 1 ["script", "k"] (oU K))(C__law_ring_words:Cal P w K mg base (CX1 P w) "_law_ring_words" 2 ["script", "at", "most"] (pC K))
  (C__law_digit_words:Cal P w K mg base (CX1 P w) "_law_digit_words" 2 ["cell", "most"] rT):cT P w K mg base (CX1 P w) 3 f fd ["script", "at", "most"] (tK K):=by
 refine F.okN aO (fun vs H Q E h=>?_) (fun cdv A outer s H vs Q E hr h=>?_)
 ·obtain ⟨a,ns,rfl,_⟩:=h
  rfl
 ·obtain ⟨a,ns,rfl,hS,q⟩:=h
  have hs:sizeLine=16777216:=sizeLine_eq
  refine ⟨_,(aB (aJ (i:=3) aO.nd rfl (Or.inl rfl) (aU C__law_ring_words hr bU (aA (pv 0) (aA (pv 1) (aA (pv 2) aD)))))
   (aB (aJ (i:=4) aO.nd rfl (Or.inl rfl) (aL cM (aL fP (aU C__law_cell_at hr bU (aA (pv 0) (aA (pv 1) aD))) aG) aG))
   (aB (cL (aQ eI (pv 4) aG (bF _)) (aF (bL (aU C__law_digit_words hr bU (aA (aU C__law_cell_at hr bU (aA (pv 0) (aA (aL dR (pv 1) aG) aD))) (aA (pv 2) aD))))) bD)
   (aB (aJ (i:=5) aO.nd rfl (Or.inl rfl) (aL fP (aU C__law_cell_at hr bU (aA (pv 0) (aA (aL dR (pv 1) aG) aD))) aG))
   (aB (cL (PW.pt (oC (aQ eI (pv 4) aG (bF _)) (kP (aQ lJ (aM aP (by rfl) tt.b_len PySem.boot_len (aA (pv 3) aD)) aG (bF _))))) (aF (aJ (i:=3) aO.nd rfl (Or.inl rfl) (bE eP (pv 3) (bQ aG) bT))) bD)
   (aB (cL (aQ eI (pv 4) aG (bF _)) (aB (aJ (i:=5) aO.nd rfl (Or.inl rfl) (aL cM (pv 5) (aL Mt aG aG)))
   (aF (dA PassesOwn.never rfl (gC (by rfl) tt.b_range (aA (aL dR aG (aL cM (pv 5) aG)) aD)) (bS (i:=6) aO.nd rfl (Or.inl rfl)) (aB (aJ (i:=7) aO.nd rfl (Or.inl rfl) (cS [] (by decide +kernel)))
   (aB (dA PassesOwn.never rfl (gC (by rfl) tt.b_range (aA (aM dU (by rfl) tt.b_len PySem.boot_len (aA (eS cX (pv 3) aG (fun _ _=>rfl)) aD)) aD)) (bS (i:=8) aO.nd rfl (Or.inl rfl)) (aB (aJ (i:=9) aO.nd rfl (Or.inl rfl) (aL fP (aL dR (pv 5) (aL pH (pv 6) (pv 6))) (aL dR (aL dR (aL dR (aL pH (aL pH aG (pv 8)) (pv 8)) (aL pH aG (pv 8))) (aL pH aG (pv 6))) aG)))
   (aF (aJ (i:=7) aO.nd rfl (Or.inl rfl) (aL jF (pv 7) (eS Pc (cS [97,98,99,100,101,102] (by decide +kernel)) (aL cM (pv 9) aG) (fun _ _=>rfl)))))))
   (aF (cL (aQ iD (pv 7) (pv 3) (by with_unfolding_all rfl)) (aF (aJ (i:=3) aO.nd rfl (Or.inl rfl) (aL jQ (pv 3) (dX (aA (pv 7) aD))))) bD))))))) bD)
   (aB (cL (PW.pt (oC (aQ eI (pv 4) aG (bF _)) (kP (aQ lJ (aM aP (by rfl) tt.b_len PySem.boot_len (aA (pv 3) aD)) aG (bF _))))) (aB (aJ (i:=3) aO.nd rfl (Or.inl rfl) (aL jQ (bE eP (pv 3) bT (bQ (aL cM (pv 5) (aM aP (by rfl) tt.b_len PySem.boot_len (aA (pv 3) aD))))) (bE eP (pv 3) (bQ (aL dR (aL cM (pv 5) (aM aP (by rfl) tt.b_len PySem.boot_len (aA (pv 3) aD))) aG)) bT)))
   (aF (aJ (i:=3) aO.nd rfl (Or.inl rfl) (aL jQ (bE eP (pv 3) bT (bQ (aL cM (aL fP (pv 5) aG) (aM aP (by rfl) tt.b_len PySem.boot_len (aA (pv 3) aD))))) (bE eP (pv 3) (bQ (aL dR (aL cM (aL fP (pv 5) aG) (aM aP (by rfl) tt.b_len PySem.boot_len (aA (pv 3) aD))) aG)) bT))))) bD)
   (aF (bL (pv 3)))))))))),?_⟩
  (try rw [eK]);(try rw [cxK1])
  refine ⟨_,rfl,_,rfl,_,rfl,a,ns,rfl,hS,fun p ls n H1 s1 hd hwl hn hne hl=>?_⟩
  refine ⟨_,rfl,_,rfl,a,ns,0,rfl,s1.seq hS,_,_,rfl,rfl,⟨by decide,by decide⟩,_,_,rfl,rfl,(by show (0:Int)<5;decide),?_⟩
  dsimp only
  generalize ns.getD 0 0/7 % 5=wy
  refine ⟨_,rfl,_,rfl,_,rfl,_,rfl,?_⟩
  refine fL (fun h4=>?_) (fun h4=>?_)
  ·exact ⟨_,rfl,_,rfl,_,_,rfl,rfl,a,ns,1,rfl,s1.seq hS,_,rfl,_,rfl,fun D ls2 n2 H2 s2 hd2 hw2 hn2 hne2 hl2=>q D ls2 n2 H2 (s1.trans s2) hd2 hw2 hn2 hne2 (by omega)⟩
  refine ⟨_,rfl,_,rfl,_,_,rfl,rfl,a,ns,1,rfl,s1.seq hS,_,_,rfl,rfl,⟨by decide,by decide⟩,?_⟩
  dsimp only
  generalize ns.getD 1 0/8=dr
  refine ⟨_,rfl,_,rfl,_,rfl,_,rfl,?_⟩
  refine fL (fun h1=>?a) (fun h1=>?b)
  case' a =>
   refine ⟨_,rfl,p,_,rfl,.inl (SqL.of hd),_,_,rfl,rfl,_,rfl,?_⟩
   rw [List.length_map]
   refine fL (fun h2=>?a1) (fun h2=>?a2)
  case' a1 =>
   have h2':1<ls.length:=by have:=of_decide_eq_true h2;omega
   refine ⟨_,rfl,_,rfl,p,_,rfl,SqL.of hd,fun p3 hp3=>?_⟩
   rw [show eC (ls.map T) (some 1) none=(ls.drop 1).map T from hJ (k:=1) (by omega)]
   obtain ⟨H3,hH3,s3,hd3⟩:=sO (s1.trans (aH (o:=.lst ((ls.drop 1).map T)) hp3))
   rw [<- hH3]
   obtain ⟨ls3,hd3,hw3,hne3,hl3⟩:∃ ls3:List (List Nat),H3 p3=some (.lst (ls3.map T))∧WL ls3 n∧ls3≠[]∧ls3.length<=11:=⟨ls.drop 1,hd3,hwl.sub (List.drop_sublist _ _),(fun z=>by have:=congrArg List.length z;rw [List.length_drop] at this;simp at this;omega),by rw [List.length_drop];omega⟩
  case' a2 =>
   obtain ⟨H3,hH3,s3⟩:=Ga s1
   rw [<- hH3]
   obtain ⟨p3,hp3,ls3,hd3,hw3,hne3,hl3⟩:∃ p3,p3=p∧∃ ls3:List (List Nat),H3 p3=some (.lst (ls3.map T))∧WL ls3 n∧ls3≠[]∧ls3.length<=11:=⟨p,rfl,ls,by rw [hH3];exact hd,hwl,hne,hl⟩
   rw [<- hp3]
  case' b =>
   obtain ⟨H3,hH3,s3⟩:=Ga s1
   rw [<- hH3]
   obtain ⟨p3,hp3,ls3,hd3,hw3,hne3,hl3⟩:∃ p3,p3=p∧∃ ls3:List (List Nat),H3 p3=some (.lst (ls3.map T))∧WL ls3 n∧ls3≠[]∧ls3.length<=11:=⟨p,rfl,ls,by rw [hH3];exact hd,hwl,hne,hl⟩
   rw [<- hp3]
  all_goals
   refine ⟨_,rfl,_,rfl,_,rfl,_,rfl,?_⟩
   refine fL (fun h5=>?_) (fun h5=>?_)
   rotate_left
   ·have h40:=hl3
    refine ⟨_,rfl,_,rfl,_,rfl,_,rfl,?_⟩
    refine fL (fun h7=>?_) (fun h7=>?_)
    ·refine ⟨_,rfl,p3,_,rfl,.inl (SqL.of hd3),_,_,rfl,rfl,_,rfl,?_⟩
     rw [List.length_map]
     refine fL (fun h8=>?_) (fun h8=>?_)
     ·have h2:2<ls3.length:=by have:=of_decide_eq_true h8;omega
      obtain ⟨m,hm,hml⟩:=Ht (dr) (show 0<(ls3.map T).length by rw [List.length_map];omega)
      rw [List.length_map] at hml
      have c1:eC (ls3.map T) none (some (dr % (((ls3.map T).length:Nat):Int)))=(ls3.take m).map T:=by rw [hm];exact nR (by omega)
      have c2:eC (ls3.map T) (some (dr % (((ls3.map T).length:Nat):Int)+1)) none=(ls3.drop (m+1)).map T:=by rw [hm];exact hJ (k:=m+1) (by omega)
      refine ⟨_,rfl,_,rfl,_,rfl,p3,_,rfl,.inl (SqL.of hd3),_,_,rfl,rfl,(by show (0:Int)<(((ls3.map T).length:Nat):Int);rw [List.length_map];omega),_,rfl,p3,_,rfl,SqL.of hd3,fun q1 hq1=>?_⟩
      rw [c1]
      have t1:=aH (o:=.lst ((ls3.take m).map T)) hq1
      refine ⟨_,rfl,_,rfl,_,rfl,p3,_,rfl,.inl (SqL.of (t1 p3 _ hd3)),_,_,rfl,rfl,(by show (0:Int)<(((ls3.map T).length:Nat):Int);rw [List.length_map];omega),_,_,rfl,rfl,_,rfl,p3,_,rfl,SqL.of (t1 p3 _ hd3),fun q2 hq2=>?_⟩
      rw [c2]
      have t2:=aH (o:=.lst ((ls3.drop (m+1)).map T)) hq2
      refine ⟨q1,q2,_,_,rfl,rfl,SqL.of (t2 q1 _ aC),SqL.of aC,(by rw [List.length_map,List.length_map,List.length_take,List.length_drop];omega),fun q3 hq3=>?_⟩
      have t3:=t1.trans (t2.trans (aH (o:=.lst ((ls3.take m).map T++(ls3.drop (m+1)).map T)) hq3))
      obtain ⟨H8,hH8,t3,hd8⟩:=sO t3
      rw [<- hH8]
      obtain ⟨ms,hms,hsub,hmsl⟩:∃ ms:List (List Nat),(ls3.take m).map T++(ls3.drop (m+1)).map T=ms.map T∧ms.Sublist ls3∧ms.length=ls3.length-1:=⟨ls3.take m++ls3.drop (m+1),by rw [List.map_append],nS _ _,by rw [List.length_append,List.length_take,List.length_drop];omega⟩
      rw [hms] at hd8
      obtain ⟨m',hm',hml'⟩:=Ht (dr/7) (show 0<(ms.map T).length by rw [List.length_map];omega)
      rw [List.length_map] at hml'
      have c3:eC (ms.map T) none (some (dr/7 % (((ms.map T).length:Nat):Int)))=(ms.take m').map T:=by rw [hm'];exact nR (by omega)
      have c4:eC (ms.map T) (some (dr/7 % (((ms.map T).length:Nat):Int)+1)) none=(ms.drop (m'+1)).map T:=by rw [hm'];exact hJ (k:=m'+1) (by omega)
      refine ⟨_,rfl,_,rfl,_,_,rfl,rfl,⟨by decide,by decide⟩,_,rfl,q3,_,rfl,.inl (SqL.of hd8),_,_,rfl,rfl,(by show (0:Int)<(((ms.map T).length:Nat):Int);rw [List.length_map];omega),_,rfl,q3,_,rfl,SqL.of hd8,fun q4 hq4=>?_⟩
      rw [c3]
      have t4:=aH (o:=.lst ((ms.take m').map T)) hq4
      refine ⟨_,rfl,_,rfl,_,_,rfl,rfl,⟨by decide,by decide⟩,_,rfl,q3,_,rfl,.inl (SqL.of (t4 q3 _ hd8)),_,_,rfl,rfl,(by show (0:Int)<(((ms.map T).length:Nat):Int);rw [List.length_map];omega),_,_,rfl,rfl,_,rfl,q3,_,rfl,SqL.of (t4 q3 _ hd8),fun q5 hq5=>?_⟩
      rw [c4]
      have t5:=aH (o:=.lst ((ms.drop (m'+1)).map T)) hq5
      refine ⟨q4,q5,_,_,rfl,rfl,SqL.of (t5 q4 _ aC),SqL.of aC,(by rw [List.length_map,List.length_map,List.length_take,List.length_drop];omega),fun q6 hq6=>?_⟩
      have t6:=t4.trans (t5.trans (aH (o:=.lst ((ms.take m').map T++(ms.drop (m'+1)).map T)) hq6))
      have hl9:(ms.take m'++ms.drop (m'+1)).length=ms.length-1:=by rw [List.length_append,List.length_take,List.length_drop];omega
      exact ⟨_,rfl,q q6 (ms.take m'++ms.drop (m'+1)) n _ ((s3).trans (t3.trans t6)) (by rw [List.map_append];exact aC) ((hw3).sub ((nS _ _).trans hsub)) hn (fun z=>by rw [z] at hl9;simp at hl9;omega) (by omega)⟩
     ·exact ⟨_,rfl,q p3 ls3 n _ s3 hd3 hw3 hn hne3 (by omega)⟩
    ·exact ⟨_,rfl,q p3 ls3 n _ s3 hd3 hw3 hn hne3 (by omega)⟩
   refine ⟨_,rfl,_,_,rfl,rfl,⟨by decide,by decide,by decide⟩,_,_,rfl,rfl,(by show (0:Int)<10 ^ 9;decide),?_⟩
   dsimp only
   generalize dr % 10 ^ Int.toNat 9=d2
   refine ⟨_,rfl,_,_,rfl,rfl,(by show (0:Int)<3;decide),_,_,rfl,rfl,_,rfl,by omega,by omega,?_⟩
   obtain ⟨N,hN,hN3⟩:∃ N:Nat,1+d2 % 3=(N:Int)∧N<=3:=⟨(1+d2 % 3).toNat,by omega,by omega⟩
   rw [hN,Int.toNat_natCast]
   refine gB (fun i σ Hk=>aN H Hk∧∃ (pk:Addr) (lk:List (List Nat)) (v6 v7 v8 v9:Option V),Hk pk=some (.lst (lk.map T))∧WL lk n∧lk≠[]∧lk.length<=11+i∧σ=[some (.ref a),some (.int 0),some (.int 11),some (.ref pk),some (.int wy),some (.int d2),v6,v7,v8,v9])
    ⟨s3,p3,ls3,none,none,none,none,hd3,hw3,hne3,by omega,rfl⟩ ?_ ?_
   ·rintro i σ Hk hi ⟨sk,pk,lk,v6,v7,v8,v9,hdk,hwk,hnek,hlk,rfl⟩
    obtain ⟨m0,hm0⟩:∃ m0,lk[0]?=some m0:=⟨_,List.getElem?_eq_getElem (List.length_pos_iff.mpr hnek)⟩
    have hm0l:=(hwk.1 m0 (List.mem_of_getElem? hm0)).1
    refine ⟨_,rfl,pk,_,_,_,rfl,rfl,SqL.of hdk,dC (j:=0) (by rw [List.getElem?_map,hm0];rfl),_,rfl,(by omega),_,rfl,by omega,by omega,?_⟩
    rw [hm0l,Int.toNat_natCast]
    refine gB (fun j σ Hj=>Hk=Hj∧∃ (t:List Nat) (v8 v9:Option V),t.length=j∧Abc t∧σ=[some (.ref a),some (.int 0),some (.int 11),some (.ref pk),some (.int wy),some (.int d2),some (.int (0+(i:Int))),some (T t),v8,v9])
     ⟨rfl,[],v8,v9,rfl,(fun c hc=>by simp at hc),rfl⟩ ?_ ?_
    ·rintro j σ Hj hj ⟨rfl,t,v8,v9,ht,hab,rfl⟩
     obtain ⟨sq,hsq,sq0,sq1⟩:∃ sq:Int,3*(0+(j:Int))*(0+(j:Int))=sq∧0<=sq∧sq<=75:=by
      rcases (show j=0∨j=1∨j=2∨j=3∨j=4 by omega) with rfl | rfl | rfl | rfl | rfl <;> exact ⟨_,rfl,by decide,by decide⟩
     refine ⟨_,rfl,_,rfl,_,rfl,_,_,rfl,rfl,.inl ⟨by omega,by omega⟩,_,_,rfl,rfl,_,rfl,_,_,rfl,rfl,.inl ⟨by decide,by decide⟩,_,rfl,_,_,rfl,rfl,.inl ⟨by omega,by omega⟩,_,rfl,_,_,rfl,rfl,.inl ⟨by decide,by decide⟩,_,_,rfl,rfl,_,rfl,_,_,rfl,rfl,.inl ⟨by decide,by decide⟩,_,_,rfl,rfl,_,_,rfl,rfl,_,_,rfl,rfl,
      ⟨(by show (0:Int)<3*(0+(j:Int))*(0+(j:Int))+5*(0+(j:Int))+7*(0+(i:Int))+1;rw [hsq];omega),(by show 3*(0+(j:Int))*(0+(j:Int))+5*(0+(j:Int))+7*(0+(i:Int))+1<(1073741824:Int);rw [hsq];omega)⟩,?_⟩
     dsimp only
     generalize (d2+(0+(i:Int))*(0+(i:Int)))/(3*(0+(j:Int))*(0+(j:Int))+5*(0+(j:Int))+7*(0+(i:Int))+1)=pt
     obtain ⟨c,hc,c0,c1⟩:=Gs (Int.emod_nonneg pt (show (6:Int)≠0 by decide)) (Int.emod_lt_of_pos pt (show (0:Int)<6 by decide))
     refine ⟨_,rfl,_,rfl,_,_,rfl,rfl,(by show (0:Int)<6;decide),_,rfl,_,rfl,(by show 6<=sizeLine;omega),c,hc,_,rfl,_,rfl,(by show t.length+1<=sizeLine;omega),?_⟩
     refine ⟨rfl,t++[c],some (.int (0+(j:Int))),some (.int pt),by rw [List.length_append,ht];rfl,fun e he=>?_,rfl⟩
     rcases List.mem_append.mp he with g | g
     ·exact hab e g
     ·have e':e=c:=by simpa using g
      subst e'
      exact ⟨c0,c1⟩
    ·rintro σ Hj ⟨rfl,t,v8,v9,ht,hab,rfl⟩
     refine ⟨_,rfl,_,rfl,pk,_,rfl,.inl (SqL.of hdk),rfl,jA lk,_,rfl,?_⟩
     refine fL (fun h0=>?_) (fun h0=>?_)
     ·have hni:¬ t∈lk:=fun z=>by
       have h1:(!inV (T t) (lk.map T))=true:=h0
       rw [uM,decide_eq_true z] at h1
       cases h1
      refine ⟨_,rfl,_,rfl,(by show 1<=sizeLine;omega),fun q1 hq1=>?_⟩
      have t1:=aH (o:=.lst [T t]) hq1
      refine ⟨pk,q1,_,_,rfl,rfl,SqL.of (t1 pk _ hdk),SqL.of aC,(by rw [List.length_map];show _+1<=sizeLine;omega),fun q2 hq2=>?_⟩
      exact ⟨sk.trans (t1.trans (aH hq2)),q2,lk++[t],some (.int (0+(i:Int))),some (T t),v8,v9,by rw [List.map_append];exact aC,hwk.snoc ⟨ht,hab⟩ hni,by simp,by rw [List.length_append,List.length_singleton];omega,rfl⟩
     ·exact ⟨sk,pk,lk,some (.int (0+(i:Int))),some (T t),v8,v9,hdk,hwk,hnek,by omega,rfl⟩
   ·rintro σ Hk ⟨sk,pk,lk,v6,v7,v8,v9,hdk,hwk,hnek,hlk,rfl⟩
    refine ⟨_,rfl,_,rfl,_,rfl,_,rfl,?_⟩
    refine fL (fun h7=>?_) (fun h7=>?_)
    ·refine ⟨_,rfl,pk,_,rfl,.inl (SqL.of hdk),_,_,rfl,rfl,_,rfl,?_⟩
     rw [List.length_map]
     refine fL (fun h8=>?_) (fun h8=>?_)
     ·have h2:2<lk.length:=by have:=of_decide_eq_true h8;omega
      obtain ⟨m,hm,hml⟩:=Ht (d2) (show 0<(lk.map T).length by rw [List.length_map];omega)
      rw [List.length_map] at hml
      have c1:eC (lk.map T) none (some (d2 % (((lk.map T).length:Nat):Int)))=(lk.take m).map T:=by rw [hm];exact nR (by omega)
      have c2:eC (lk.map T) (some (d2 % (((lk.map T).length:Nat):Int)+1)) none=(lk.drop (m+1)).map T:=by rw [hm];exact hJ (k:=m+1) (by omega)
      refine ⟨_,rfl,_,rfl,_,rfl,pk,_,rfl,.inl (SqL.of hdk),_,_,rfl,rfl,(by show (0:Int)<(((lk.map T).length:Nat):Int);rw [List.length_map];omega),_,rfl,pk,_,rfl,SqL.of hdk,fun q1 hq1=>?_⟩
      rw [c1]
      have t1:=aH (o:=.lst ((lk.take m).map T)) hq1
      refine ⟨_,rfl,_,rfl,_,rfl,pk,_,rfl,.inl (SqL.of (t1 pk _ hdk)),_,_,rfl,rfl,(by show (0:Int)<(((lk.map T).length:Nat):Int);rw [List.length_map];omega),_,_,rfl,rfl,_,rfl,pk,_,rfl,SqL.of (t1 pk _ hdk),fun q2 hq2=>?_⟩
      rw [c2]
      have t2:=aH (o:=.lst ((lk.drop (m+1)).map T)) hq2
      refine ⟨q1,q2,_,_,rfl,rfl,SqL.of (t2 q1 _ aC),SqL.of aC,(by rw [List.length_map,List.length_map,List.length_take,List.length_drop];omega),fun q3 hq3=>?_⟩
      have t3:=t1.trans (t2.trans (aH (o:=.lst ((lk.take m).map T++(lk.drop (m+1)).map T)) hq3))
      obtain ⟨H8,hH8,t3,hd8⟩:=sO t3
      rw [<- hH8]
      obtain ⟨ms,hms,hsub,hmsl⟩:∃ ms:List (List Nat),(lk.take m).map T++(lk.drop (m+1)).map T=ms.map T∧ms.Sublist lk∧ms.length=lk.length-1:=⟨lk.take m++lk.drop (m+1),by rw [List.map_append],nS _ _,by rw [List.length_append,List.length_take,List.length_drop];omega⟩
      rw [hms] at hd8
      obtain ⟨m',hm',hml'⟩:=Ht (d2/7) (show 0<(ms.map T).length by rw [List.length_map];omega)
      rw [List.length_map] at hml'
      have c3:eC (ms.map T) none (some (d2/7 % (((ms.map T).length:Nat):Int)))=(ms.take m').map T:=by rw [hm'];exact nR (by omega)
      have c4:eC (ms.map T) (some (d2/7 % (((ms.map T).length:Nat):Int)+1)) none=(ms.drop (m'+1)).map T:=by rw [hm'];exact hJ (k:=m'+1) (by omega)
      refine ⟨_,rfl,_,rfl,_,_,rfl,rfl,⟨by decide,by decide⟩,_,rfl,q3,_,rfl,.inl (SqL.of hd8),_,_,rfl,rfl,(by show (0:Int)<(((ms.map T).length:Nat):Int);rw [List.length_map];omega),_,rfl,q3,_,rfl,SqL.of hd8,fun q4 hq4=>?_⟩
      rw [c3]
      have t4:=aH (o:=.lst ((ms.take m').map T)) hq4
      refine ⟨_,rfl,_,rfl,_,_,rfl,rfl,⟨by decide,by decide⟩,_,rfl,q3,_,rfl,.inl (SqL.of (t4 q3 _ hd8)),_,_,rfl,rfl,(by show (0:Int)<(((ms.map T).length:Nat):Int);rw [List.length_map];omega),_,_,rfl,rfl,_,rfl,q3,_,rfl,SqL.of (t4 q3 _ hd8),fun q5 hq5=>?_⟩
      rw [c4]
      have t5:=aH (o:=.lst ((ms.drop (m'+1)).map T)) hq5
      refine ⟨q4,q5,_,_,rfl,rfl,SqL.of (t5 q4 _ aC),SqL.of aC,(by rw [List.length_map,List.length_map,List.length_take,List.length_drop];omega),fun q6 hq6=>?_⟩
      have t6:=t4.trans (t5.trans (aH (o:=.lst ((ms.take m').map T++(ms.drop (m'+1)).map T)) hq6))
      have hl9:(ms.take m'++ms.drop (m'+1)).length=ms.length-1:=by rw [List.length_append,List.length_take,List.length_drop];omega
      exact ⟨_,rfl,q q6 (ms.take m'++ms.drop (m'+1)) n _ ((sk).trans (t3.trans t6)) (by rw [List.map_append];exact aC) ((hwk).sub ((nS _ _).trans hsub)) hn (fun z=>by rw [z] at hl9;simp at hl9;omega) (by omega)⟩
     ·exact ⟨_,rfl,q pk lk n _ sk hdk hwk hn hnek (by omega)⟩
    ·exact ⟨_,rfl,q pk lk n _ sk hdk hwk hn hnek (by omega)⟩
def sR:Sp:=fun vs H Q _=>∃ x:Int,vs=[.int x,.int x]∧Q (.bl true) H
theorem pV {f:Addr}{fd:FuncData}(F:Fun K "_law_whole" "_law_whole" dY f fd)(tt:Txt K mg ad):cT P w K mg base (CX1 P w) 1 f fd ["found", "due"] sR:=by
 refine F.okN qA (fun vs H Q E h=>?_) (fun cdv A outer s H vs Q E hr h=>?_)
 ·obtain ⟨x,rfl,_⟩:=h
  rfl
 ·obtain ⟨x,rfl,q⟩:=h
  refine ⟨_,(aF (bL (Di (aM mZ (by rfl) tt.b_isinstance PyProof.Rows.boot_isinstance (aA (pv 0) (aA (yR (v:=.ty "int") (u:=.type "int") (by rfl) tt.b_int (by decide +kernel) rfl) aD))) (Di (Mp (aM mZ (by rfl) tt.b_isinstance PyProof.Rows.boot_isinstance (aA (pv 0) (aA (yR (v:=.ty "bool") (u:=.type "bool") (by rfl) tt.b_bool (by decide +kernel) rfl) aD)))) (Kz (Id eI (pv 0) (pv 1) (bF _))))))),?_⟩
  (try rw [eK]);(try rw [cxK1])
  refine ⟨_,rfl,_,_,_,_,rfl,.int _,Gx _,_,rfl,Cm ?_⟩
  refine ⟨_,rfl,_,_,_,_,rfl,.int _,rW,_,rfl,_,rfl,Cm ?_⟩
  refine ⟨_,rfl,_,rfl,_,rfl,_,rfl,?_⟩
  rw [decide_eq_true rfl]
  exact q
theorem kB.perm {ls ms:List (List Nat)}{n:Nat}(h:kB ls n)(p:ms.Perm ls):kB ms n:=⟨fun z=>h.1 (List.length_eq_zero_iff.mp (by rw [<- p.length_eq,z];rfl)),by rw [p.length_eq];exact h.2.1,h.2.2.1,fun x hx=>h.2.2.2.1 x (p.mem_iff.mp hx),p.nodup_iff.mpr h.2.2.2.2⟩
theorem IsP.perm {ls ms:List (List Nat)}(p:ms.Perm ls)(z:List Nat):IsP ms z↔IsP ls z:=⟨fun ⟨w,h1,h2⟩=>⟨w,p.mem_iff.mp h1,h2⟩,fun ⟨w,h1,h2⟩=>⟨w,p.mem_iff.mpr h1,h2⟩⟩
theorem Fl {ls:List (List Nat)}{f:List Nat->List Nat}{t:List Nat}:∀ k,itT ls f k t=Dt.iT ls f k t
 | 0=>rfl
 | k+1=>by show stT ls f (itT ls f k t)=Dt.sT ls f (Dt.iT ls f k t);rw [Fl k];rfl
theorem Cc {ls:List (List Nat)}{f:List Nat->List Nat}:eM ls f=Dt.cmT ls f:=by
 unfold eM Dt.cmT
 congr 1
 funext t
 rw [Fl]
theorem qN {α:Type}(p:α->Bool):∀ l:List α,(l.filter p).length+(l.filter fun x=>!p x).length=l.length
 | []=>rfl
 | x::l=>by
  have ih:=qN p l
  by_cases h:p x=true
  ·rw [List.filter_cons_of_pos h,List.filter_cons_of_neg (by simp [h]),List.length_cons,List.length_cons];omega
  ·rw [List.filter_cons_of_neg h,List.filter_cons_of_pos (by simp [h]),List.length_cons,List.length_cons];omega
theorem Ei {ts so:List (List Nat)}{g:List Nat->List (List Nat)}{bs:List Addr}{R:(List Nat->List Nat)->Addr->Prop}(hp:so.Perm ts)(nd:ts.Nodup)(hR:Dt.R2 R ((Dt.chs g so.reverse).filter (eM so)) bs):bs.length=Dt.nC ts g:=by
 rw [<- hR.len,Dt.tF (ms:=so.reverse) (hp.symm.trans (List.reverse_perm so).symm) nd]
 unfold Dt.nC
 congr 2
 funext f
 rw [Cc]
 exact Dt.oS (List.reverse_perm so).symm f
theorem yJ {ts:List (List Nat)}(nd:ts.Nodup)(g:List Nat->List (List Nat)):Dt.det ts.length (Dt.ent (gY ts g))=((Dt.nC ts g:Nat):Int):=Dt.Lh nd g
theorem wF {K:PySem.W.Frag}{H:Hp}{g g':List Nat->List (List Nat)}{ts:List (List Nat)}{kx:List (Key×V)}(h1:aY H g ts kx):∀ {ky:List (Key×V)},aY H g' ts ky->(∀ t∈ts,g t=g' t)->jC K H kx ky:=by
 induction h1 with
 | nil=>intro ky h2 _;cases h2;exact .nil
 | @cons o a _ _ e _ ih =>
  intro ky h2 hg
  cases h2 with
  | cons e2 h2=>exact .cons (SqL.of e) (SqL.of (by rw [hg o (List.mem_cons_self ..)];exact e2)) (ih h2 fun t ht=>hg t (List.mem_cons_of_mem _ ht))
theorem qP {ls:List (List Nat)}:∀ {ts:List (List Nat)},ts.Nodup->(ts.map fun t=>(ls.filter fun l=>decide (beg l=t)).length).sum<=ls.length
 | [],_=>by simp
 | t::ts,nd=>by
  rw [List.nodup_cons] at nd
  have ih:=qP (ls:=ls.filter fun l=>!decide (beg l=t)) nd.2
  rw [List.map_cons,List.sum_cons]
  have e:(ts.map fun u=>((ls.filter fun l=>!decide (beg l=t)).filter fun l=>decide (beg l=u)).length)=ts.map fun u=>(ls.filter fun l=>decide (beg l=u)).length:=List.map_congr_left fun u hu=>by
   rw [List.filter_filter]
   congr 1
   refine List.filter_congr fun l _=>?_
   by_cases h:beg l=u
   ·have:beg l≠t:=fun z=>nd.1 (by rw [<- z,h];exact hu)
    simp [h,this]
    rw [h] at this
    exact this
   ·simp [h]
  rw [e] at ih
  have h2:=qN (fun l=>decide (beg l=t)) ls
  omega
def zE (K:PySem.W.Frag):Sp:=fun vs H Q _=>∃ (a:Addr) (ns:List Int),vs=[.ref a]∧SqL K H a (ns.map V.int)∧ns.length<=63∧∀ H',Q (.bl true) H'
theorem Ky {f:Addr}{fd:FuncData}(F:Fun K "law" "law" jD f fd)(tt:Txt K mg ad)(C__law_some_words:Cal P w K mg base (CX1 P w) "_law_some_words" 3 ["script", "at", "most"] (tK K))(C_Web_init:Cam P w K mg base (CX1 P w) "Web" ad.Web 5 ["self", "words"] (wT K ad.Web))
  (C__law_ways:Cal P w K mg base (CX1 P w) "_law_ways" 1 ["words", "piece"] (sA K)) (C__law_all_choices:Cal P w K mg base (CX1 P w) "_law_all_choices" 2 ["ways"] xO) (C__law_whole:Cal P w K mg base (CX1 P w) "_law_whole" 1 ["found", "due"] sR) (C_tree_count:Cal P w K mg base (CX1 P w) "tree_count" 5 ["web", "piece"] (wV ad.Web ad))
  (C_choices_counted:Cal P w K mg base (CX1 P w) "choices_counted" 4 ["ways"] (jR K)) (C__law_cut:Cal P w K mg base (CX1 P w) "_law_cut" 1 ["ways", "cell"] Dg) (C__law_cell_at:Cal P w K mg base (CX1 P w) "_law_cell_at" 1 ["script", "k"] (oU K)) :
  cT P w K mg base (CX1 P w) 7 f fd ["script"] (zE K):=by
 refine F.okN hV (fun vs H Q E h=>?_) (fun cdv A outer s H vs Q E hr h=>?_)
 ·obtain ⟨a,ns,rfl,_⟩:=h
  rfl
 ·obtain ⟨a,ns,rfl,hS,hlen,q⟩:=h
  have hs:sizeLine=16777216:=sizeLine_eq
  have hu:=Nat.lt_of_succ_lt (eY hr)
  refine ⟨_,(aB (aJ (i:=1) hV.nd rfl (Or.inl rfl) (aU C__law_some_words hr bU (aA (pv 0) (aA aG (aA aG aD)))))
   (aB (aJ (i:=2) hV.nd rfl (Or.inl rfl) (Ly C_Web_init hr bU (aA (pv 1) aD)))
   (aB (aJ (i:=3) hV.nd rfl (Or.inl rfl) (aM (lG rfl) (by rfl) tt.b_sorted PyProof.Rows.boot_sorted (aA (eF (lZ rfl) (by rfl) tt.b_set (by decide +kernel) (aA (aL jQ (eR Df rfl (cD (pv 1)) (fun cl C s' H' fp=>(bE kJ (pv 0) bT (bQ (lP iH aG))))) (eR Ec rfl (cD (pv 1)) (fun cl C s' H' fp=>(bE kJ (pv 0) (bQ aG) bT)))) aD)) aD)))
   (aB (dA PassesOwn.never rfl (gC (by rfl) tt.b_range (aA (aM aP (by rfl) tt.b_len PySem.boot_len (aA (pv 3) aD)) aD)) (bS (i:=4) hV.nd rfl (Or.inl rfl)) (aB (aJ (i:=5) hV.nd rfl (Or.inl rfl) (aU C__law_ways hr bU (aA (pv 1) (aA (eS cX (pv 3) (pv 4) (fun _ _=>rfl)) aD))))
   (aB (aJ (i:=6) hV.nd rfl (Or.inl rfl) (aM aP (by rfl) tt.b_len PySem.boot_len (aA (aU C__law_all_choices hr bU (aA (pv 5) aD)) aD)))
   (aB (cL (PW.pt (Ad (xK (tM (aU C__law_whole hr bU (aA (aU C_tree_count hr bU (aA (pv 2) (aA (eS cX (pv 3) (pv 4) (fun _ _=>rfl)) aD))) (aA (pv 6) aD))))) (tH (xK (tM (aU C__law_whole hr bU (aA (aU C_choices_counted hr bU (aA (pv 5) aD)) (aA (pv 6) aD)))))))) (aF (bL zW)) bD)
   (aB (aJ (i:=7) hV.nd rfl (Or.inl rfl) (aU C__law_cut hr bU (aA (pv 5) (aA (aU C__law_cell_at hr bU (aA (pv 0) (aA (pv 4) aD))) aD))))
   (aB (aJ (i:=8) hV.nd rfl (Or.inl rfl) (aU C__law_cut hr bU (aA (pv 7) (aA aG aD))))
   (aF (cL (PW.pt (Ad (xK (tM (aU C__law_whole hr bU (aA (aU C_choices_counted hr bU (aA (pv 8) aD)) (aA (aM aP (by rfl) tt.b_len PySem.boot_len (aA (aU C__law_all_choices hr bU (aA (pv 7) aD)) aD)) aD))))) (tH (aQ (Dh (eY hr)) (pv 8) (pv 7) (bF _))))) (aF (bL zW)) bD))))))))
   (aF (bL (aU C__law_whole hr bU (aA (aU C_choices_counted hr bU (aA iW aD)) (aA aG aD))))))))),?_⟩
  (try rw [eK]);(try rw [cxK1])
  refine ⟨_,rfl,a,ns,rfl,hS,fun D ls n H1 s1 hd hwl hn hne hl43=>?_⟩
  have hok:kB ls n:=⟨hne,by omega,⟨by omega,by omega⟩,hwl.1,hwl.2⟩
  refine ⟨_,rfl,?_⟩
  intro x dx nx ndx nex
  have s2:aN H1 (upd (upd H1 dx (.own x)) x (.ins ad.Web dx [])):=fun b o e=>by
   rw [aI (aK e nx),aI (aK e ndx)]
   exact e
  refine ⟨x,dx,D,ls,n,rfl,aC,SqL.of (s2 D _ hd),hok,fun tp ms H2 hp2 hw2 k2 hx2 ht2=>⟨rfl,?_⟩⟩
  have s2:aN H1 H2:=fun b o e=>k2 b o (s2 b o e) (aK e nx)
  have hW:mW ad.Web H2 x tp n ms:=⟨⟨dx,hx2⟩,ht2⟩
  have hokm:=hok.perm hp2
  have hxl:∀ l∈ls,1<=l.length∧l.length<=1000:=fun l hl=>by have:=(hwl.1 l hl).1;omega
  have hd2:=s2 D _ hd
  have cb:∀ l∈ls,gG l none (some (-(1:Int)))=beg l:=fun l hl=>mF (hxl l hl).1
  have ce:∀ l∈ls,gG l (some 1) none=l.drop 1:=fun l hl=>gU (k:=1) (hxl l hl).1
  refine ⟨_,rfl,D,rfl,⟨_,SqL.of hd2⟩,?_⟩
  refine jZ (fun v=>T (beg (unT v))) (cQ (SqL.of hd2)) (by rw [List.length_map];omega) (fun v H3 hv s3 N hN=>?_) fun D1 H3 hD1 s3 hd3=>?_
  ·obtain ⟨l,hl,rfl⟩:=List.mem_map.mp hv
   have hll:=hxl l hl
   have z:=hN H3 (aN.refl _)
   rw [fH,<- cb l hl] at z
   exact ⟨_,rfl,_,rfl,_,rfl,_,rfl,(by omega),z⟩
  rw [iC (f:=fun l=>T (beg l)),show ls.map (fun l=>T (beg l))=(ls.map beg).map T by rw [List.map_map];rfl] at hd3
  refine ⟨_,rfl,D,rfl,⟨_,SqL.of (s3 D _ hd2)⟩,?_⟩
  refine jZ (fun v=>T ((unT v).drop 1)) (cQ (SqL.of (s3 D _ hd2))) (by rw [List.length_map];omega) (fun v H4 hv s4 N hN=>?_) fun D2 H4 hD2 s4 hd4=>?_
  ·obtain ⟨l,hl,rfl⟩:=List.mem_map.mp hv
   have hll:=hxl l hl
   have z:=hN H4 (aN.refl _)
   rw [fH,<- ce l hl] at z
   exact ⟨_,rfl,_,rfl,_,rfl,(by omega),z⟩
  rw [iC (f:=fun l=>T (l.drop 1)),show ls.map (fun l=>T (l.drop 1))=(ls.map fun l=>l.drop 1).map T by rw [List.map_map];rfl] at hd4
  refine ⟨D1,D2,_,_,rfl,rfl,SqL.of (s4 D1 _ hd3),SqL.of hd4,(by rw [List.length_map,List.length_map,List.length_map,List.length_map];omega),fun D3 hD3=>?_⟩
  have s5:=aH (o:=.lst ((ls.map beg).map T++(ls.map fun l=>l.drop 1).map T)) hD3
  refine ⟨D3,ls.map beg++ls.map (fun l=>l.drop 1),rfl,SqL.of (by rw [List.map_append];exact aC),(by rw [List.length_append,List.length_map,List.length_map];omega),fun S hSn=>?_⟩
  have s6:=aH (o:=jU w S (gQ (ls.map beg++ls.map fun l=>l.drop 1))) hSn
  have ul:=jO (ls.map beg++ls.map fun l=>l.drop 1) (ls.map beg++ls.map fun l=>l.drop 1).length
  have ul':(gQ (ls.map beg++ls.map fun l=>l.drop 1)).length<=86:=by
   refine Nat.le_trans ul ?_
   rw [List.length_append,List.length_map,List.length_map]
   omega
  refine ⟨S,_,rfl,aC,(by omega),fun ev D4 hD4 hp4 hw4=>?_⟩
  have s7:=aH (o:=.lst (ev.map T)) hD4
  have s27:=s3.trans (s4.trans (s5.trans (s6.trans s7)))
  have hevl:ev.length<=86:=by rw [hp4.length_eq];exact ul'
  have hevm:∀ z,z∈ev↔IsP ls z:=fun z=>by
   rw [hp4.mem_iff,gX,List.mem_append,List.mem_map,List.mem_map]
   constructor
   ·rintro (⟨l,hl,rfl⟩ | ⟨l,hl,rfl⟩)
    ·exact ⟨l,hl,.inl rfl⟩
    ·exact ⟨l,hl,.inr rfl⟩
   ·rintro ⟨l,hl,rfl | rfl⟩
    ·exact .inl ⟨l,hl,rfl⟩
    ·exact .inr ⟨l,hl,rfl⟩
  have hd7:upd (upd (upd H4 D3 (.lst ((ls.map beg).map T++(ls.map fun l=>l.drop 1).map T))) S (jU w S (gQ (ls.map beg++ls.map fun l=>l.drop 1)))) D4 (.lst (ev.map T)) D4=some (.lst (ev.map T)):=aC
  refine ⟨_,rfl,D4,_,rfl,.inl (SqL.of hd7),_,rfl,?_⟩
  rw [List.length_map]
  refine ⟨(by omega),(by omega),?_⟩
  refine gB (fun k σ G=>aN H2 G∧G D4=some (.lst (ev.map T))∧∃ (v4 v5 v6 v7 v8:Option V),σ=[some (.ref a),some (.ref D),some (.ref x),some (.ref D4),v4,v5,v6,v7,v8]) ⟨s27,hd7,none,none,none,none,none,rfl⟩ ?_ ?_
  ·rintro k σ G hk ⟨sG,hdG,v4,v5,v6,v7,v8,rfl⟩
   have hk:k<ev.length:=hk
   obtain ⟨p,hpk⟩:∃ p,ev[k]?=some p:=⟨_,List.getElem?_eq_getElem hk⟩
   have hip:IsP ls p:=(hevm p).mp (List.mem_of_getElem? hpk)
   have hix:atI (ev.map T) (0+(k:Int))=some (T p):=by rw [Int.zero_add];exact dC (by rw [List.getElem?_map,hpk];rfl)
   refine ⟨_,rfl,_,rfl,_,rfl,D4,_,_,_,rfl,rfl,SqL.of hdG,hix,D,ls,p,rfl,SqL.of (sG D _ hd2),⟨by omega,hxl⟩,fun D5 G5 hD5 s5 hw5=>?_⟩
   obtain ⟨kvs,ts,g,hd5,hwa,nd,hll,hm,hg⟩:=hw5
   have hts:ts.length<=64:=by have:ts.length<=2*ls.length+0:=hll;omega
   have hgo:∀ t∈ts,g t=wC ms t:=fun t ht=>Wd.mS ((hg t ht).1.trans ((hp2.symm.filter fun l=>decide (beg l=t)))) (hg t ht).2 (hw2.filter fun l=>decide (beg l=t))
   have hgl:∀ t∈ts,(g t).length<=20:=fun t ht=>by rw [(hg t ht).1.length_eq];exact Nat.le_trans (List.length_filter_le ..) (by omega)
   have hgx:∀ t∈ts,∀ y∈g t,1<=y.length∧y.length<=1000:=fun t ht y hy=>hxl y (List.mem_filter.mp ((hg t ht).1.mem_iff.mp hy)).1
   have hsm:(ts.map fun t=>(g t).length).sum<=20:=by
    rw [List.map_congr_left fun t ht=>(hg t ht).1.length_eq]
    exact Nat.le_trans (qP nd) (by omega)
   refine ⟨_,rfl,D5,ts,kvs,g,rfl,hd5,hwa,nd,⟨by omega,hsm,hgx⟩,fun so D6 bs G6 hp6 hw6 hD6 s6 hd6 hR6=>?_⟩
   refine ⟨D6,_,rfl,.inl (SqL.of hd6),?_⟩
   rw [List.length_map,Ei hp6 nd hR6]
   have sG6:=sG.trans (s5.trans s6)
   refine ⟨_,rfl,_,rfl,_,rfl,D4,_,_,_,rfl,rfl,SqL.of ((s5.trans s6) D4 _ hdG),hix,x,tp,n,ms,p,rfl,hW.on sG6,hokm,(by rw [hp2.length_eq];omega),fun z=>absurd ((IsP.perm hp2 p).mpr hip) z,fun _ ps G7 s7 hpl hpw hpn hpm=>?_⟩
   have hpt:(ps.filter fun o=>decide (o≠p)).Perm ts:=(List.perm_ext_iff_of_nodup (hpn.sublist List.filter_sublist) nd).mpr fun z=>by
    rw [List.mem_filter,hpm,hm,IsP.perm hp2,decide_eq_true_iff]
    constructor
    ·rintro ⟨h1,h2⟩;exact ⟨h2,.inl h1⟩
    ·rintro ⟨h1,h2 | h2⟩
     ·exact ⟨h2,h1⟩
     ·cases h2
   rw [yJ (hpn.sublist List.filter_sublist),Dt.tF hpt (hpn.sublist List.filter_sublist),<- Dt.vA hgo]
   refine ⟨_,rfl,_,rfl,_,rfl,?_⟩
   refine xB ?_
   have sG7:=sG6.trans s7
   obtain ⟨hsq,hpl⟩:=lN hts fun t ht=>Nat.le_trans (hgl t ht) (by decide)
   refine ⟨_,rfl,D5,ts,kvs,g,rfl,(s6.trans s7) D5 _ hd5,hwa.mono (s6.trans s7),⟨hts,fun t ht=>⟨Nat.le_trans (hgl t ht) (by decide),hgx t ht⟩⟩,hsq,hpl,fun G8 s8=>?_⟩
   rw [yJ nd]
   refine ⟨_,rfl,_,rfl,_,rfl,?_⟩
   refine xB ?_
   have sG8:=sG7.trans s8
   have s58:=s6.trans (s7.trans s8)
   refine ⟨_,rfl,_,rfl,_,rfl,a,ns,k,congrArg (fun z=>[V.ref a,V.int z]) (by omega),(s1.trans (s2.trans sG8)).seq hS,D5,ts,kvs,g,_,rfl,s58 D5 _ hd5,hwa.mono s58,nd,⟨by omega,fun t ht=>Nat.le_trans (hgl t ht) (by decide)⟩,fun D9 k9 g9 G9 hD9 s9 hd9 hw9 hc9=>?_⟩
   have hg9:∀ t∈ts,(g9 t).length<=(g t).length∧∀ y∈g9 t,y∈g t:=fun t ht=>by
    rcases hc9.1 t ht with z | ⟨y,h1,h2⟩
    ·rw [z];exact ⟨Nat.le_refl _,fun y hy=>hy⟩
    ·rw [h2]
     refine ⟨?_,fun z hz=>by rw [List.mem_singleton.mp hz];exact h1⟩
     show 1<=(g t).length
     exact List.length_pos_of_mem h1
   refine ⟨_,rfl,D9,ts,k9,g9,0,rfl,hd9,hw9,nd,⟨by omega,fun t ht=>Nat.le_trans (hg9 t ht).1 (Nat.le_trans (hgl t ht) (by decide))⟩,fun D10 k10 g10 G10 hD10 s10 hd10 hw10 hc10=>?_⟩
   have he:=hc10.2 rfl
   have hgl10:∀ t∈ts,(g10 t).length<=20:=fun t ht=>by rw [he t ht];exact Nat.le_trans (hg9 t ht).1 (hgl t ht)
   have hgx9:∀ t∈ts,∀ y∈g9 t,1<=y.length∧y.length<=1000:=fun t ht y hy=>hgx t ht y ((hg9 t ht).2 y hy)
   have hsm9:(ts.map fun t=>(g9 t).length).sum<=20:=by
    refine Nat.le_trans ?_ hsm
    have key:∀ l:List (List Nat),(∀ t∈l,(g9 t).length<=(g t).length)->(l.map fun t=>(g9 t).length).sum<=(l.map fun t=>(g t).length).sum:=fun l=>by
     induction l with
     | nil=>intro _;exact Nat.le_refl _
     | cons t l ih =>
      intro h
      rw [List.map_cons,List.map_cons,List.sum_cons,List.sum_cons]
      exact Nat.add_le_add (h t (List.mem_cons_self ..)) (ih fun u hu=>h u (List.mem_cons_of_mem _ hu))
    exact key ts fun t ht=>(hg9 t ht).1
   obtain ⟨hsq,hpl⟩:=lN (g:=g10) hts fun t ht=>Nat.le_trans (hgl10 t ht) (by decide)
   refine ⟨_,rfl,D10,ts,k10,g10,rfl,hd10,hw10,⟨hts,fun t ht=>⟨Nat.le_trans (hgl10 t ht) (by decide),by rw [he t ht];exact hgx9 t ht⟩⟩,hsq,hpl,fun G11 s11=>?_⟩
   rw [yJ nd,Dt.vA he]
   have s9b:=s10.trans s11
   refine ⟨_,rfl,D9,ts,k9,g9,rfl,s9b D9 _ hd9,hw9.mono s9b,nd,⟨by omega,hsm9,hgx9⟩,fun so2 D12 bs2 G12 hp12 hw12 hD12 s12 hd12 hR12=>?_⟩
   refine ⟨D12,_,rfl,.inl (SqL.of hd12),?_⟩
   rw [List.length_map,Ei hp12 nd hR12]
   refine ⟨_,rfl,_,rfl,?_⟩
   refine xB ?_
   have s1012:=s11.trans s12
   refine ⟨_,rfl,_,rfl,D10,D9,k10,k9,rfl,rfl,s1012 D10 _ hd10,(s9b.trans s12) D9 _ hd9,wF (hw10.mono s1012) (hw9.mono (s9b.trans s12)) he,(by rw [hw9.keys];exact List.pairwise_map.mpr (nd.imp fun h z=>h (fU (Sum.inr.inj z)))),_,rfl,?_⟩
   refine xB ?_
   exact ⟨sG8.trans (s9.trans (s9b.trans s12)),(s5.trans (s58.trans (s9.trans (s9b.trans s12)))) D4 _ hdG,_,_,_,_,_,rfl⟩
  ·rintro σ G ⟨sG,hdG,v4,v5,v6,v7,v8,rfl⟩
   refine fun d hd0=>?_
   obtain ⟨hsq,hpl⟩:=lN (ls:=[]) (g:=fun _=>[]) (by decide) fun t ht=>(nomatch ht)
   refine ⟨d,[],[],fun _=>[],rfl,aC,.nil,⟨by decide,fun t ht=>(nomatch ht)⟩,hsq,hpl,fun G2 s2=>?_⟩
   exact ⟨_,rfl,q _⟩
end
theorem all_mk {l:PySem.W.OpenLaw}{w:World}{K:PySem.W.Frag}{h:Heap}{mg:Str->Option Value}{fa:Addr}(X:K.In h)(G:h.Ns mainGlobals mg)(hfa:mg "law" = some (.ref fa))
  {f_0:Addr} {od_0 an_0:Option Addr} {sl_0:Array (Option Value)} {oc_0 kV_0 dc_0 pm_0 cd_0 ct_0:Value}
  {f_1:Addr} {od_1 an_1:Option Addr} {sl_1:Array (Option Value)} {oc_1 kV_1 dc_1 pm_1 cd_1 ct_1:Value}
  {f_2:Addr} {od_2 an_2:Option Addr} {sl_2:Array (Option Value)} {oc_2 kV_2 dc_2 pm_2 cd_2 ct_2:Value}
  {f_3:Addr} {od_3 an_3:Option Addr} {sl_3:Array (Option Value)} {oc_3 kV_3 dc_3 pm_3 cd_3 ct_3:Value}
  {f_4:Addr} {od_4 an_4:Option Addr} {sl_4:Array (Option Value)} {oc_4 kV_4 dc_4 pm_4 cd_4 ct_4:Value}
  {f_5:Addr} {od_5 an_5:Option Addr} {sl_5:Array (Option Value)} {oc_5 kV_5 dc_5 pm_5 cd_5 ct_5:Value}
  {f_6:Addr} {od_6 an_6:Option Addr} {sl_6:Array (Option Value)} {oc_6 kV_6 dc_6 pm_6 cd_6 ct_6:Value}
  {f_7:Addr} {od_7 an_7:Option Addr} {sl_7:Array (Option Value)} {oc_7 kV_7 dc_7 pm_7 cd_7 ct_7:Value}
  {f_8:Addr} {od_8 an_8:Option Addr} {sl_8:Array (Option Value)} {oc_8 kV_8 dc_8 pm_8 cd_8 ct_8:Value}
  {f_9:Addr} {od_9 an_9:Option Addr} {sl_9:Array (Option Value)} {oc_9 kV_9 dc_9 pm_9 cd_9 ct_9:Value}
  {f_10:Addr} {od_10 an_10:Option Addr} {sl_10:Array (Option Value)} {oc_10 kV_10 dc_10 pm_10 cd_10 ct_10:Value}
  {f_11:Addr} {od_11 an_11:Option Addr} {sl_11:Array (Option Value)} {oc_11 kV_11 dc_11 pm_11 cd_11 ct_11:Value}
  {f_12:Addr} {od_12 an_12:Option Addr} {sl_12:Array (Option Value)} {oc_12 kV_12 dc_12 pm_12 cd_12 ct_12:Value}
  {f_13:Addr} {od_13 an_13:Option Addr} {sl_13:Array (Option Value)} {oc_13 kV_13 dc_13 pm_13 cd_13 ct_13:Value}
  {f_14:Addr} {od_14 an_14:Option Addr} {sl_14:Array (Option Value)} {oc_14 kV_14 dc_14 pm_14 cd_14 ct_14:Value}
  {f_15:Addr} {od_15 an_15:Option Addr} {sl_15:Array (Option Value)} {oc_15 kV_15 dc_15 pm_15 cd_15 ct_15:Value}
  {f_16:Addr} {od_16 an_16:Option Addr} {sl_16:Array (Option Value)} {oc_16 kV_16 dc_16 pm_16 cd_16 ct_16:Value}
  {f_17:Addr} {od_17 an_17:Option Addr} {sl_17:Array (Option Value)} {oc_17 kV_17 dc_17 pm_17 cd_17 ct_17:Value}
  {f_18:Addr} {od_18 an_18:Option Addr} {sl_18:Array (Option Value)} {oc_18 kV_18 dc_18 pm_18 cd_18 ct_18:Value}
  {f_19:Addr} {od_19 an_19:Option Addr} {sl_19:Array (Option Value)} {oc_19 kV_19 dc_19 pm_19 cd_19 ct_19:Value}
  {f_20:Addr} {od_20 an_20:Option Addr} {sl_20:Array (Option Value)} {oc_20 kV_20 dc_20 pm_20 cd_20 ct_20:Value}
  {f_21:Addr} {od_21 an_21:Option Addr} {sl_21:Array (Option Value)} {oc_21 kV_21 dc_21 pm_21 cd_21 ct_21:Value}
  {f_22:Addr} {od_22 an_22:Option Addr} {sl_22:Array (Option Value)} {oc_22 kV_22 dc_22 pm_22 cd_22 ct_22:Value}
  {f_23:Addr} {od_23 an_23:Option Addr} {sl_23:Array (Option Value)} {oc_23 kV_23 dc_23 pm_23 cd_23 ct_23:Value}
  {f_24:Addr} {od_24 an_24:Option Addr} {sl_24:Array (Option Value)} {oc_24 kV_24 dc_24 pm_24 cd_24 ct_24:Value}
  {f_25:Addr} {od_25 an_25:Option Addr} {sl_25:Array (Option Value)} {oc_25 kV_25 dc_25 pm_25 cd_25 ct_25:Value}
  {f_26:Addr} {od_26 an_26:Option Addr} {sl_26:Array (Option Value)} {oc_26 kV_26 dc_26 pm_26 cd_26 ct_26:Value}
  {f_27:Addr} {od_27 an_27:Option Addr} {sl_27:Array (Option Value)} {oc_27 kV_27 dc_27 pm_27 cd_27 ct_27:Value}
  {f_28:Addr} {od_28 an_28:Option Addr} {sl_28:Array (Option Value)} {oc_28 kV_28 dc_28 pm_28 cd_28 ct_28:Value}
  {f_29:Addr} {od_29 an_29:Option Addr} {sl_29:Array (Option Value)} {oc_29 kV_29 dc_29 pm_29 cd_29 ct_29:Value}
  {f_30:Addr} {od_30 an_30:Option Addr} {sl_30:Array (Option Value)} {oc_30 kV_30 dc_30 pm_30 cd_30 ct_30:Value}
  {f_31:Addr} {od_31 an_31:Option Addr} {sl_31:Array (Option Value)} {oc_31 kV_31 dc_31 pm_31 cd_31 ct_31:Value}
  {f_32:Addr} {od_32 an_32:Option Addr} {sl_32:Array (Option Value)} {oc_32 kV_32 dc_32 pm_32 cd_32 ct_32:Value}
  {c_BadKinds:Addr}
  {c_BadWord:Addr}
  {c_TooMany:Addr}
  {c_NoSuch:Addr}
  {c_Web:Addr}
  {c_KNOWN_TIMES:Addr}
  {u_LETTERS:Value}
  {u_LONGEST:Value}
  {u_MOST_OF_A_WEB:Value}
  {u_LONGEST_OF_A_WEB:Value}
  {u_FIRST_PRIME:Value}
  {u_STEP:Value}
  (a_0:PySem.W.nsIn K mainGlobals "further_times" = some (some (.ref f_0))) (l_0:K.lookup f_0=some ⟨oc_0,od_0,.func (PySem.W.fnOf "further_times" "further_times" (aV cV) (aS cV) (aE cV) .none kV_0 dc_0 pm_0 an_0 cd_0 ct_0),sl_0⟩) (c_0:PySem.W.codeIn K cd_0 "further_times" = true) (k_0:PySem.W.keepIn K (.ref f_0)=true)
  (a_1:PySem.W.nsIn K mainGlobals "inverse" = some (some (.ref f_1))) (l_1:K.lookup f_1=some ⟨oc_1,od_1,.func (PySem.W.fnOf "inverse" "inverse" (aV gD) (aS gD) (aE gD) .none kV_1 dc_1 pm_1 an_1 cd_1 ct_1),sl_1⟩) (c_1:PySem.W.codeIn K cd_1 "inverse" = true) (k_1:PySem.W.keepIn K (.ref f_1)=true)
  (a_2:PySem.W.nsIn K mainGlobals "lowered" = some (some (.ref f_2))) (l_2:K.lookup f_2=some ⟨oc_2,od_2,.func (PySem.W.fnOf "lowered" "lowered" (aV fK) (aS fK) (aE fK) .none kV_2 dc_2 pm_2 an_2 cd_2 ct_2),sl_2⟩) (c_2:PySem.W.codeIn K cd_2 "lowered" = true) (k_2:PySem.W.keepIn K (.ref f_2)=true)
  (a_3:PySem.W.nsIn K mainGlobals "first_other_than_nought" = some (some (.ref f_3))) (l_3:K.lookup f_3=some ⟨oc_3,od_3,.func (PySem.W.fnOf "first_other_than_nought" "first_other_than_nought" (aV bG) (aS bG) (aE bG) .none kV_3 dc_3 pm_3 an_3 cd_3 ct_3),sl_3⟩) (c_3:PySem.W.codeIn K cd_3 "first_other_than_nought" = true) (k_3:PySem.W.keepIn K (.ref f_3)=true)
  (a_4:PySem.W.nsIn K mainGlobals "determinant_rest" = some (some (.ref f_4))) (l_4:K.lookup f_4=some ⟨oc_4,od_4,.func (PySem.W.fnOf "determinant_rest" "determinant_rest" (aV bH) (aS bH) (aE bH) .none kV_4 dc_4 pm_4 an_4 cd_4 ct_4),sl_4⟩) (c_4:PySem.W.codeIn K cd_4 "determinant_rest" = true) (k_4:PySem.W.keepIn K (.ref f_4)=true)
  (a_5:PySem.W.nsIn K mainGlobals "greatest_of" = some (some (.ref f_5))) (l_5:K.lookup f_5=some ⟨oc_5,od_5,.func (PySem.W.fnOf "greatest_of" "greatest_of" (aV cZ) (aS cZ) (aE cZ) .none kV_5 dc_5 pm_5 an_5 cd_5 ct_5),sl_5⟩) (c_5:PySem.W.codeIn K cd_5 "greatest_of" = true) (k_5:PySem.W.keepIn K (.ref f_5)=true)
  (a_6:PySem.W.nsIn K mainGlobals "determinant" = some (some (.ref f_6))) (l_6:K.lookup f_6=some ⟨oc_6,od_6,.func (PySem.W.fnOf "determinant" "determinant" (aV dO) (aS dO) (aE dO) .none kV_6 dc_6 pm_6 an_6 cd_6 ct_6),sl_6⟩) (c_6:PySem.W.codeIn K cd_6 "determinant" = true) (k_6:PySem.W.keepIn K (.ref f_6)=true)
  (a_7:PySem.W.nsIn K mainGlobals "looked_kinds" = some (some (.ref f_7))) (l_7:K.lookup f_7=some ⟨oc_7,od_7,.func (PySem.W.fnOf "looked_kinds" "looked_kinds" (aV dD) (aS dD) (aE dD) .none kV_7 dc_7 pm_7 an_7 cd_7 ct_7),sl_7⟩) (c_7:PySem.W.codeIn K cd_7 "looked_kinds" = true) (k_7:PySem.W.keepIn K (.ref f_7)=true)
  (a_8:PySem.W.nsIn K mainGlobals "looked_length" = some (some (.ref f_8))) (l_8:K.lookup f_8=some ⟨oc_8,od_8,.func (PySem.W.fnOf "looked_length" "looked_length" (aV cW) (aS cW) (aE cW) .none kV_8 dc_8 pm_8 an_8 cd_8 ct_8),sl_8⟩) (c_8:PySem.W.codeIn K cd_8 "looked_length" = true) (k_8:PySem.W.keepIn K (.ref f_8)=true)
  (a_9:PySem.W.nsIn K mainGlobals "letters" = some (some (.ref f_9))) (l_9:K.lookup f_9=some ⟨oc_9,od_9,.func (PySem.W.fnOf "letters" "letters" (aV gE) (aS gE) (aE gE) .none kV_9 dc_9 pm_9 an_9 cd_9 ct_9),sl_9⟩) (c_9:PySem.W.codeIn K cd_9 "letters" = true) (k_9:PySem.W.keepIn K (.ref f_9)=true)
  (a_10:PySem.W.nsIn K mainGlobals "looked" = some (some (.ref f_10))) (l_10:K.lookup f_10=some ⟨oc_10,od_10,.func (PySem.W.fnOf "looked" "looked" (aV gT) (aS gT) (aE gT) .none kV_10 dc_10 pm_10 an_10 cd_10 ct_10),sl_10⟩) (c_10:PySem.W.codeIn K cd_10 "looked" = true) (k_10:PySem.W.keepIn K (.ref f_10)=true)
  (a_11:PySem.W.nsIn K mainGlobals "looked_web" = some (some (.ref f_11))) (l_11:K.lookup f_11=some ⟨oc_11,od_11,.func (PySem.W.fnOf "looked_web" "looked_web" (aV eE) (aS eE) (aE eE) .none kV_11 dc_11 pm_11 an_11 cd_11 ct_11),sl_11⟩) (c_11:PySem.W.codeIn K cd_11 "looked_web" = true) (k_11:PySem.W.keepIn K (.ref f_11)=true)
  (a_12:PySem.W.findIn K (.ref c_Web) "__init__" = some (some (.ref f_12))) (l_12:K.lookup f_12=some ⟨oc_12,od_12,.func (PySem.W.fnOf "__init__" "Web.__init__" (aV fI) (aS fI) (aE fI) .none kV_12 dc_12 pm_12 an_12 cd_12 ct_12),sl_12⟩) (c_12:PySem.W.codeIn K cd_12 "Web.__init__" = true) (k_12:PySem.W.keepIn K (.ref f_12)=true) (i_Web_init:PySem.W.isFn K (.ref f_12)=true)
  (a_13:PySem.W.nsIn K mainGlobals "begin_of" = some (some (.ref f_13))) (l_13:K.lookup f_13=some ⟨oc_13,od_13,.func (PySem.W.fnOf "begin_of" "begin_of" (aV fM) (aS fM) (aE fM) .none kV_13 dc_13 pm_13 an_13 cd_13 ct_13),sl_13⟩) (c_13:PySem.W.codeIn K cd_13 "begin_of" = true) (k_13:PySem.W.keepIn K (.ref f_13)=true)
  (a_14:PySem.W.nsIn K mainGlobals "end_of" = some (some (.ref f_14))) (l_14:K.lookup f_14=some ⟨oc_14,od_14,.func (PySem.W.fnOf "end_of" "end_of" (aV gR) (aS gR) (aE gR) .none kV_14 dc_14 pm_14 an_14 cd_14 ct_14),sl_14⟩) (c_14:PySem.W.codeIn K cd_14 "end_of" = true) (k_14:PySem.W.keepIn K (.ref f_14)=true)
  (a_15:PySem.W.nsIn K mainGlobals "pieces" = some (some (.ref f_15))) (l_15:K.lookup f_15=some ⟨oc_15,od_15,.func (PySem.W.fnOf "pieces" "pieces" (aV fQ) (aS fQ) (aE fQ) .none kV_15 dc_15 pm_15 an_15 cd_15 ct_15),sl_15⟩) (c_15:PySem.W.codeIn K cd_15 "pieces" = true) (k_15:PySem.W.keepIn K (.ref f_15)=true)
  (a_16:PySem.W.nsIn K mainGlobals "outs" = some (some (.ref f_16))) (l_16:K.lookup f_16=some ⟨oc_16,od_16,.func (PySem.W.fnOf "outs" "outs" (aV kH) (aS kH) (aE kH) .none kV_16 dc_16 pm_16 an_16 cd_16 ct_16),sl_16⟩) (c_16:PySem.W.codeIn K cd_16 "outs" = true) (k_16:PySem.W.keepIn K (.ref f_16)=true)
  (a_17:PySem.W.nsIn K mainGlobals "choice_row" = some (some (.ref f_17))) (l_17:K.lookup f_17=some ⟨oc_17,od_17,.func (PySem.W.fnOf "choice_row" "choice_row" (aV cY) (aS cY) (aE cY) .none kV_17 dc_17 pm_17 an_17 cd_17 ct_17),sl_17⟩) (c_17:PySem.W.codeIn K cd_17 "choice_row" = true) (k_17:PySem.W.keepIn K (.ref f_17)=true)
  (a_18:PySem.W.nsIn K mainGlobals "choices_counted" = some (some (.ref f_18))) (l_18:K.lookup f_18=some ⟨oc_18,od_18,.func (PySem.W.fnOf "choices_counted" "choices_counted" (aV bZ) (aS bZ) (aE bZ) .none kV_18 dc_18 pm_18 an_18 cd_18 ct_18),sl_18⟩) (c_18:PySem.W.codeIn K cd_18 "choices_counted" = true) (k_18:PySem.W.keepIn K (.ref f_18)=true)
  (a_19:PySem.W.nsIn K mainGlobals "ways_toward" = some (some (.ref f_19))) (l_19:K.lookup f_19=some ⟨oc_19,od_19,.func (PySem.W.fnOf "ways_toward" "ways_toward" (aV dQ) (aS dQ) (aE dQ) .none kV_19 dc_19 pm_19 an_19 cd_19 ct_19),sl_19⟩) (c_19:PySem.W.codeIn K cd_19 "ways_toward" = true) (k_19:PySem.W.keepIn K (.ref f_19)=true)
  (a_20:PySem.W.nsIn K mainGlobals "tree_count" = some (some (.ref f_20))) (l_20:K.lookup f_20=some ⟨oc_20,od_20,.func (PySem.W.fnOf "tree_count" "tree_count" (aV eG) (aS eG) (aE eG) .none kV_20 dc_20 pm_20 an_20 cd_20 ct_20),sl_20⟩) (c_20:PySem.W.codeIn K cd_20 "tree_count" = true) (k_20:PySem.W.keepIn K (.ref f_20)=true)
  (a_21:PySem.W.nsIn K mainGlobals "_law_cell_at" = some (some (.ref f_21))) (l_21:K.lookup f_21=some ⟨oc_21,od_21,.func (PySem.W.fnOf "_law_cell_at" "_law_cell_at" (aV dF) (aS dF) (aE dF) .none kV_21 dc_21 pm_21 an_21 cd_21 ct_21),sl_21⟩) (c_21:PySem.W.codeIn K cd_21 "_law_cell_at" = true) (k_21:PySem.W.keepIn K (.ref f_21)=true)
  (a_22:PySem.W.nsIn K mainGlobals "_law_whole" = some (some (.ref f_22))) (l_22:K.lookup f_22=some ⟨oc_22,od_22,.func (PySem.W.fnOf "_law_whole" "_law_whole" (aV dY) (aS dY) (aE dY) .none kV_22 dc_22 pm_22 an_22 cd_22 ct_22),sl_22⟩) (c_22:PySem.W.codeIn K cd_22 "_law_whole" = true) (k_22:PySem.W.keepIn K (.ref f_22)=true)
  (a_23:PySem.W.nsIn K mainGlobals "_law_walk" = some (some (.ref f_23))) (l_23:K.lookup f_23=some ⟨oc_23,od_23,.func (PySem.W.fnOf "_law_walk" "_law_walk" (aV dW) (aS dW) (aE dW) .none kV_23 dc_23 pm_23 an_23 cd_23 ct_23),sl_23⟩) (c_23:PySem.W.codeIn K cd_23 "_law_walk" = true) (k_23:PySem.W.keepIn K (.ref f_23)=true)
  (a_24:PySem.W.nsIn K mainGlobals "_law_ring_words" = some (some (.ref f_24))) (l_24:K.lookup f_24=some ⟨oc_24,od_24,.func (PySem.W.fnOf "_law_ring_words" "_law_ring_words" (aV cH) (aS cH) (aE cH) .none kV_24 dc_24 pm_24 an_24 cd_24 ct_24),sl_24⟩) (c_24:PySem.W.codeIn K cd_24 "_law_ring_words" = true) (k_24:PySem.W.keepIn K (.ref f_24)=true)
  (a_25:PySem.W.nsIn K mainGlobals "_law_every" = some (some (.ref f_25))) (l_25:K.lookup f_25=some ⟨oc_25,od_25,.func (PySem.W.fnOf "_law_every" "_law_every" (aV dL) (aS dL) (aE dL) .none kV_25 dc_25 pm_25 an_25 cd_25 ct_25),sl_25⟩) (c_25:PySem.W.codeIn K cd_25 "_law_every" = true) (k_25:PySem.W.keepIn K (.ref f_25)=true)
  (a_26:PySem.W.nsIn K mainGlobals "_law_digit_words" = some (some (.ref f_26))) (l_26:K.lookup f_26=some ⟨oc_26,od_26,.func (PySem.W.fnOf "_law_digit_words" "_law_digit_words" (aV cF) (aS cF) (aE cF) .none kV_26 dc_26 pm_26 an_26 cd_26 ct_26),sl_26⟩) (c_26:PySem.W.codeIn K cd_26 "_law_digit_words" = true) (k_26:PySem.W.keepIn K (.ref f_26)=true)
  (a_27:PySem.W.nsIn K mainGlobals "_law_some_words" = some (some (.ref f_27))) (l_27:K.lookup f_27=some ⟨oc_27,od_27,.func (PySem.W.fnOf "_law_some_words" "_law_some_words" (aV cI) (aS cI) (aE cI) .none kV_27 dc_27 pm_27 an_27 cd_27 ct_27),sl_27⟩) (c_27:PySem.W.codeIn K cd_27 "_law_some_words" = true) (k_27:PySem.W.keepIn K (.ref f_27)=true)
  (a_28:PySem.W.nsIn K mainGlobals "_law_ways" = some (some (.ref f_28))) (l_28:K.lookup f_28=some ⟨oc_28,od_28,.func (PySem.W.fnOf "_law_ways" "_law_ways" (aV eV) (aS eV) (aE eV) .none kV_28 dc_28 pm_28 an_28 cd_28 ct_28),sl_28⟩) (c_28:PySem.W.codeIn K cd_28 "_law_ways" = true) (k_28:PySem.W.keepIn K (.ref f_28)=true)
  (a_29:PySem.W.nsIn K mainGlobals "_law_comes" = some (some (.ref f_29))) (l_29:K.lookup f_29=some ⟨oc_29,od_29,.func (PySem.W.fnOf "_law_comes" "_law_comes" (aV eB) (aS eB) (aE eB) .none kV_29 dc_29 pm_29 an_29 cd_29 ct_29),sl_29⟩) (c_29:PySem.W.codeIn K cd_29 "_law_comes" = true) (k_29:PySem.W.keepIn K (.ref f_29)=true)
  (a_30:PySem.W.nsIn K mainGlobals "_law_all_choices" = some (some (.ref f_30))) (l_30:K.lookup f_30=some ⟨oc_30,od_30,.func (PySem.W.fnOf "_law_all_choices" "_law_all_choices" (aV bV) (aS bV) (aE bV) .none kV_30 dc_30 pm_30 an_30 cd_30 ct_30),sl_30⟩) (c_30:PySem.W.codeIn K cd_30 "_law_all_choices" = true) (k_30:PySem.W.keepIn K (.ref f_30)=true)
  (a_31:PySem.W.nsIn K mainGlobals "_law_cut" = some (some (.ref f_31))) (l_31:K.lookup f_31=some ⟨oc_31,od_31,.func (PySem.W.fnOf "_law_cut" "_law_cut" (aV fN) (aS fN) (aE fN) .none kV_31 dc_31 pm_31 an_31 cd_31 ct_31),sl_31⟩) (c_31:PySem.W.codeIn K cd_31 "_law_cut" = true) (k_31:PySem.W.keepIn K (.ref f_31)=true)
  (a_32:PySem.W.nsIn K mainGlobals "law" = some (some (.ref f_32))) (l_32:K.lookup f_32=some ⟨oc_32,od_32,.func (PySem.W.fnOf "law" "law" (aV jD) (aS jD) (aE jD) .none kV_32 dc_32 pm_32 an_32 cd_32 ct_32),sl_32⟩) (c_32:PySem.W.codeIn K cd_32 "law" = true) (k_32:PySem.W.keepIn K (.ref f_32)=true)
  (z_abs:PySem.W.nsIn K mainGlobals "abs" = some none)
  (z_bool:PySem.W.nsIn K mainGlobals "bool" = some none)
  (z_dict:PySem.W.nsIn K mainGlobals "dict" = some none)
  (z_enumerate:PySem.W.nsIn K mainGlobals "enumerate" = some none)
  (z_int:PySem.W.nsIn K mainGlobals "int" = some none)
  (z_isinstance:PySem.W.nsIn K mainGlobals "isinstance" = some none)
  (z_len:PySem.W.nsIn K mainGlobals "len" = some none)
  (z_list:PySem.W.nsIn K mainGlobals "list" = some none)
  (z_range:PySem.W.nsIn K mainGlobals "range" = some none)
  (z_set:PySem.W.nsIn K mainGlobals "set" = some none)
  (z_sorted:PySem.W.nsIn K mainGlobals "sorted" = some none)
  (z_sum:PySem.W.nsIn K mainGlobals "sum" = some none)
  (z_tuple:PySem.W.nsIn K mainGlobals "tuple" = some none)
  (z_zip:PySem.W.nsIn K mainGlobals "zip" = some none)
  (y_BadKinds:PySem.W.nsIn K mainGlobals "BadKinds" = some (some (.ref c_BadKinds)))
  (y_BadWord:PySem.W.nsIn K mainGlobals "BadWord" = some (some (.ref c_BadWord)))
  (y_TooMany:PySem.W.nsIn K mainGlobals "TooMany" = some (some (.ref c_TooMany)))
  (y_NoSuch:PySem.W.nsIn K mainGlobals "NoSuch" = some (some (.ref c_NoSuch)))
  (y_Web:PySem.W.nsIn K mainGlobals "Web" = some (some (.ref c_Web)))
  (y_KNOWN_TIMES:PySem.W.nsIn K mainGlobals "KNOWN_TIMES" = some (some (.ref c_KNOWN_TIMES)))
  (e_BadKinds:PySem.W.excIn K c_BadKinds Bq "ValueError.__new__" = true)
  (e_BadWord:PySem.W.excIn K c_BadWord Bq "ValueError.__new__" = true)
  (e_TooMany:PySem.W.excIn K c_TooMany Bq "ValueError.__new__" = true)
  (e_NoSuch:PySem.W.excIn K c_NoSuch Bq "ValueError.__new__" = true)
  (g_LETTERS:PySem.W.nsIn K mainGlobals "LETTERS" = some (some u_LETTERS)) (r_LETTERS:bJ (T [97,98,99,100,101,102]) u_LETTERS)
  (g_LONGEST:PySem.W.nsIn K mainGlobals "LONGEST" = some (some u_LONGEST)) (r_LONGEST:bJ (.int 24) u_LONGEST)
  (g_MOST_OF_A_WEB:PySem.W.nsIn K mainGlobals "MOST_OF_A_WEB" = some (some u_MOST_OF_A_WEB)) (r_MOST_OF_A_WEB:bJ (.int 64) u_MOST_OF_A_WEB)
  (g_LONGEST_OF_A_WEB:PySem.W.nsIn K mainGlobals "LONGEST_OF_A_WEB" = some (some u_LONGEST_OF_A_WEB)) (r_LONGEST_OF_A_WEB:bJ (.int 8) u_LONGEST_OF_A_WEB)
  (g_FIRST_PRIME:PySem.W.nsIn K mainGlobals "FIRST_PRIME" = some (some u_FIRST_PRIME)) (r_FIRST_PRIME:bJ (.int 2305843009213693951) u_FIRST_PRIME)
  (g_STEP:PySem.W.nsIn K mainGlobals "STEP" = some (some u_STEP)) (r_STEP:bJ (.int 6277101735386680763835789423207666416102355444464034512896) u_STEP)
  (kt:tupIs K c_KNOWN_TIMES [133,211,598,652,721,850,1282,1417,1582,1681,1726,1837,1885,2017,2377,2383,2452,2476,2530,2611,2662,2698,2773,2878,2917,2980,2998,3082,3238,3250,3343,3421,3427,3670,3817,4162,4252,4447,4468,4621,4630,4747,4867,4891,4915,5128,5143,5236,5401,5587,5650,5803,5833,5923,5986,6202,6235,6286,6496,6526,6736,7093,7561,7696,7831,7855,7882,7927,8143,8248]=true)
  (pg_Web:PySem.W.plainGet K c_Web Str.empty=true) (hd_Web:PySem.W.hasDictIn K c_Web=true) (po_Web:PySem.W.plainOver K c_Web=true) (sa_Web:PySem.W.findIn K (.ref c_Web) "__setattr__" = some (some (.builtin "object.__setattr__"))) (mk_Web:PySem.W.makesIn K c_Web=true) (kc_Web:PySem.W.keepIn K (.ref c_Web)=true)
  (na_Web_words:PySem.W.findIn K (.ref c_Web) "words" = some none)
  (na_Web_length:PySem.W.findIn K (.ref c_Web) "length" = some none) :
  ∃ fd:FuncData,(∀ (s:Shared) (v:Value),BindsTo s fd ⟨[v],[]⟩ [("script",v)])∧∀ base:Heap,K.In base->base.Ns mainGlobals mg->cT l.prog w K mg base (CX1 l.prog w) 7 fa fd ["script"] (zE K):=by
 have e:=hfa.symm.trans (PySem.W.mg_of X G a_32)
 cases e
 have tt:Txt K mg ⟨c_BadKinds,c_BadWord,c_TooMany,c_NoSuch,c_Web,c_KNOWN_TIMES,u_LETTERS,u_LONGEST,u_MOST_OF_A_WEB,u_LONGEST_OF_A_WEB,u_FIRST_PRIME,u_STEP⟩:=⟨PySem.W.mg_none_of X G z_abs,PySem.W.mg_none_of X G z_bool,PySem.W.mg_none_of X G z_dict,PySem.W.mg_none_of X G z_enumerate,PySem.W.mg_none_of X G z_int,PySem.W.mg_none_of X G z_isinstance,PySem.W.mg_none_of X G z_len,PySem.W.mg_none_of X G z_list,PySem.W.mg_none_of X G z_range,PySem.W.mg_none_of X G z_set,PySem.W.mg_none_of X G z_sorted,PySem.W.mg_none_of X G z_sum,PySem.W.mg_none_of X G z_tuple,PySem.W.mg_none_of X G z_zip,PySem.W.mg_of X G y_BadKinds,PySem.W.mg_of X G y_BadWord,PySem.W.mg_of X G y_TooMany,PySem.W.mg_of X G y_NoSuch,PySem.W.mg_of X G y_Web,PySem.W.mg_of X G y_KNOWN_TIMES,⟨PySem.W.mg_of X G y_BadKinds,e_BadKinds⟩,⟨PySem.W.mg_of X G y_BadWord,e_BadWord⟩,⟨PySem.W.mg_of X G y_TooMany,e_TooMany⟩,⟨PySem.W.mg_of X G y_NoSuch,e_NoSuch⟩,PySem.W.mg_of X G g_LETTERS,r_LETTERS,PySem.W.mg_of X G g_LONGEST,r_LONGEST,PySem.W.mg_of X G g_MOST_OF_A_WEB,r_MOST_OF_A_WEB,PySem.W.mg_of X G g_LONGEST_OF_A_WEB,r_LONGEST_OF_A_WEB,PySem.W.mg_of X G g_FIRST_PRIME,r_FIRST_PRIME,PySem.W.mg_of X G g_STEP,r_STEP,kt,⟨pg_Web,hd_Web,po_Web,sa_Web⟩,na_Web_words,na_Web_length⟩
 have F_0:=bR (st:=cV) l_0 c_0 k_0
 have b_0:=F_0.binds (ps:=["place", "last"]) fun _ _ _ _ _ _ us hl=>L2.on2 (C:=fun us=>bindArgs _ ⟨us,[]⟩=pure (List.zip _ us)) hl fun _ _=>rfl
 have F_1:=bR (st:=gD) l_1 c_1 k_1
 have b_1:=F_1.binds (ps:=["number", "prime"]) fun _ _ _ _ _ _ us hl=>L2.on2 (C:=fun us=>bindArgs _ ⟨us,[]⟩=pure (List.zip _ us)) hl fun _ _=>rfl
 have F_2:=bR (st:=fK) l_2 c_2 k_2
 have b_2:=F_2.binds (ps:=["row", "top", "back", "prime"]) fun _ _ _ _ _ _ us hl=>L2.on4 (C:=fun us=>bindArgs _ ⟨us,[]⟩=pure (List.zip _ us)) hl fun _ _ _ _=>rfl
 have F_3:=bR (st:=bG) l_3 c_3 k_3
 have b_3:=F_3.binds (ps:=["numbers"]) fun _ _ _ _ _ _ us hl=>L2.on1 (C:=fun us=>bindArgs _ ⟨us,[]⟩=pure (List.zip _ us)) hl fun _=>rfl
 have F_4:=bR (st:=bH) l_4 c_4 k_4
 have b_4:=F_4.binds (ps:=["square", "prime"]) fun _ _ _ _ _ _ us hl=>L2.on2 (C:=fun us=>bindArgs _ ⟨us,[]⟩=pure (List.zip _ us)) hl fun _ _=>rfl
 have F_5:=bR (st:=cZ) l_5 c_5 k_5
 have b_5:=F_5.binds (ps:=["square"]) fun _ _ _ _ _ _ us hl=>L2.on1 (C:=fun us=>bindArgs _ ⟨us,[]⟩=pure (List.zip _ us)) hl fun _=>rfl
 have F_6:=bR (st:=dO) l_6 c_6 k_6
 have b_6:=F_6.binds (ps:=["square"]) fun _ _ _ _ _ _ us hl=>L2.on1 (C:=fun us=>bindArgs _ ⟨us,[]⟩=pure (List.zip _ us)) hl fun _=>rfl
 have F_7:=bR (st:=dD) l_7 c_7 k_7
 have b_7:=F_7.binds (ps:=["kinds"]) fun _ _ _ _ _ _ us hl=>L2.on1 (C:=fun us=>bindArgs _ ⟨us,[]⟩=pure (List.zip _ us)) hl fun _=>rfl
 have F_8:=bR (st:=cW) l_8 c_8 k_8
 have b_8:=F_8.binds (ps:=["length", "kinds"]) fun _ _ _ _ _ _ us hl=>L2.on2 (C:=fun us=>bindArgs _ ⟨us,[]⟩=pure (List.zip _ us)) hl fun _ _=>rfl
 have F_9:=bR (st:=gE) l_9 c_9 k_9
 have b_9:=F_9.binds (ps:=["kinds"]) fun _ _ _ _ _ _ us hl=>L2.on1 (C:=fun us=>bindArgs _ ⟨us,[]⟩=pure (List.zip _ us)) hl fun _=>rfl
 have F_10:=bR (st:=gT) l_10 c_10 k_10
 have b_10:=F_10.binds (ps:=["word", "kinds"]) fun _ _ _ _ _ _ us hl=>L2.on2 (C:=fun us=>bindArgs _ ⟨us,[]⟩=pure (List.zip _ us)) hl fun _ _=>rfl
 have F_11:=bR (st:=eE) l_11 c_11 k_11
 have b_11:=F_11.binds (ps:=["words"]) fun _ _ _ _ _ _ us hl=>L2.on1 (C:=fun us=>bindArgs _ ⟨us,[]⟩=pure (List.zip _ us)) hl fun _=>rfl
 have F_12:=bR (st:=fI) l_12 c_12 k_12
 have b_12:=F_12.binds (ps:=["self", "words"]) fun _ _ _ _ _ _ us hl=>L2.on2 (C:=fun us=>bindArgs _ ⟨us,[]⟩=pure (List.zip _ us)) hl fun _ _=>rfl
 have F_13:=bR (st:=fM) l_13 c_13 k_13
 have b_13:=F_13.binds (ps:=["word"]) fun _ _ _ _ _ _ us hl=>L2.on1 (C:=fun us=>bindArgs _ ⟨us,[]⟩=pure (List.zip _ us)) hl fun _=>rfl
 have F_14:=bR (st:=gR) l_14 c_14 k_14
 have b_14:=F_14.binds (ps:=["word"]) fun _ _ _ _ _ _ us hl=>L2.on1 (C:=fun us=>bindArgs _ ⟨us,[]⟩=pure (List.zip _ us)) hl fun _=>rfl
 have F_15:=bR (st:=fQ) l_15 c_15 k_15
 have b_15:=F_15.binds (ps:=["web"]) fun _ _ _ _ _ _ us hl=>L2.on1 (C:=fun us=>bindArgs _ ⟨us,[]⟩=pure (List.zip _ us)) hl fun _=>rfl
 have F_16:=bR (st:=kH) l_16 c_16 k_16
 have b_16:=F_16.binds (ps:=["web", "piece"]) fun _ _ _ _ _ _ us hl=>L2.on2 (C:=fun us=>bindArgs _ ⟨us,[]⟩=pure (List.zip _ us)) hl fun _ _=>rfl
 have F_17:=bR (st:=cY) l_17 c_17 k_17
 have b_17:=F_17.binds (ps:=["texts", "text", "words"]) fun _ _ _ _ _ _ us hl=>L2.on3 (C:=fun us=>bindArgs _ ⟨us,[]⟩=pure (List.zip _ us)) hl fun _ _ _=>rfl
 have F_18:=bR (st:=bZ) l_18 c_18 k_18
 have b_18:=F_18.binds (ps:=["ways"]) fun _ _ _ _ _ _ us hl=>L2.on1 (C:=fun us=>bindArgs _ ⟨us,[]⟩=pure (List.zip _ us)) hl fun _=>rfl
 have F_19:=bR (st:=dQ) l_19 c_19 k_19
 have b_19:=F_19.binds (ps:=["web", "piece"]) fun _ _ _ _ _ _ us hl=>L2.on2 (C:=fun us=>bindArgs _ ⟨us,[]⟩=pure (List.zip _ us)) hl fun _ _=>rfl
 have F_20:=bR (st:=eG) l_20 c_20 k_20
 have b_20:=F_20.binds (ps:=["web", "piece"]) fun _ _ _ _ _ _ us hl=>L2.on2 (C:=fun us=>bindArgs _ ⟨us,[]⟩=pure (List.zip _ us)) hl fun _ _=>rfl
 have F_21:=bR (st:=dF) l_21 c_21 k_21
 have b_21:=F_21.binds (ps:=["script", "k"]) fun _ _ _ _ _ _ us hl=>L2.on2 (C:=fun us=>bindArgs _ ⟨us,[]⟩=pure (List.zip _ us)) hl fun _ _=>rfl
 have F_22:=bR (st:=dY) l_22 c_22 k_22
 have b_22:=F_22.binds (ps:=["found", "due"]) fun _ _ _ _ _ _ us hl=>L2.on2 (C:=fun us=>bindArgs _ ⟨us,[]⟩=pure (List.zip _ us)) hl fun _ _=>rfl
 have F_23:=bR (st:=dW) l_23 c_23 k_23
 have b_23:=F_23.binds (ps:=["cells", "kinds", "first"]) fun _ _ _ _ _ _ us hl=>L2.on3 (C:=fun us=>bindArgs _ ⟨us,[]⟩=pure (List.zip _ us)) hl fun _ _ _=>rfl
 have F_24:=bR (st:=cH) l_24 c_24 k_24
 have b_24:=F_24.binds (ps:=["script", "at", "most"]) fun _ _ _ _ _ _ us hl=>L2.on3 (C:=fun us=>bindArgs _ ⟨us,[]⟩=pure (List.zip _ us)) hl fun _ _ _=>rfl
 have F_25:=bR (st:=dL) l_25 c_25 k_25
 have b_25:=F_25.binds (ps:=["kinds", "length"]) fun _ _ _ _ _ _ us hl=>L2.on2 (C:=fun us=>bindArgs _ ⟨us,[]⟩=pure (List.zip _ us)) hl fun _ _=>rfl
 have F_26:=bR (st:=cF) l_26 c_26 k_26
 have b_26:=F_26.binds (ps:=["cell", "most"]) fun _ _ _ _ _ _ us hl=>L2.on2 (C:=fun us=>bindArgs _ ⟨us,[]⟩=pure (List.zip _ us)) hl fun _ _=>rfl
 have F_27:=bR (st:=cI) l_27 c_27 k_27
 have b_27:=F_27.binds (ps:=["script", "at", "most"]) fun _ _ _ _ _ _ us hl=>L2.on3 (C:=fun us=>bindArgs _ ⟨us,[]⟩=pure (List.zip _ us)) hl fun _ _ _=>rfl
 have F_28:=bR (st:=eV) l_28 c_28 k_28
 have b_28:=F_28.binds (ps:=["words", "piece"]) fun _ _ _ _ _ _ us hl=>L2.on2 (C:=fun us=>bindArgs _ ⟨us,[]⟩=pure (List.zip _ us)) hl fun _ _=>rfl
 have F_29:=bR (st:=eB) l_29 c_29 k_29
 have b_29:=F_29.binds (ps:=["chosen"]) fun _ _ _ _ _ _ us hl=>L2.on1 (C:=fun us=>bindArgs _ ⟨us,[]⟩=pure (List.zip _ us)) hl fun _=>rfl
 have F_30:=bR (st:=bV) l_30 c_30 k_30
 have b_30:=F_30.binds (ps:=["ways"]) fun _ _ _ _ _ _ us hl=>L2.on1 (C:=fun us=>bindArgs _ ⟨us,[]⟩=pure (List.zip _ us)) hl fun _=>rfl
 have F_31:=bR (st:=fN) l_31 c_31 k_31
 have b_31:=F_31.binds (ps:=["ways", "cell"]) fun _ _ _ _ _ _ us hl=>L2.on2 (C:=fun us=>bindArgs _ ⟨us,[]⟩=pure (List.zip _ us)) hl fun _ _=>rfl
 have F_32:=bR (st:=jD) l_32 c_32 k_32
 refine ⟨PySem.W.fnOf "law" "law" (aV jD) (aS jD) (aE jD) .none kV_32 dc_32 pm_32 an_32 cd_32 ct_32,fun s v=>.of_eq rfl,fun base _ _=>?_⟩
 have C_0:Cal l.prog w K mg base (CX1 l.prog w) "further_times" 1 ["place", "last"] tD:=⟨⟨_,_,mD F_0 tt,PySem.W.mg_of X G a_0,F_0.kp,b_0⟩⟩
 have C_1:Cal l.prog w K mg base (CX1 l.prog w) "inverse" 1 ["number", "prime"] sC:=⟨⟨_,_,yC F_1 tt,PySem.W.mg_of X G a_1,F_1.kp,b_1⟩⟩
 have C_2:Cal l.prog w K mg base (CX1 l.prog w) "lowered" 1 ["row", "top", "back", "prime"] (Fa K):=⟨⟨_,_,yO F_2 tt,PySem.W.mg_of X G a_2,F_2.kp,b_2⟩⟩
 have C_3:Cal l.prog w K mg base (CX1 l.prog w) "first_other_than_nought" 1 ["numbers"] (tU K):=⟨⟨_,_,gH F_3 tt,PySem.W.mg_of X G a_3,F_3.kp,b_3⟩⟩
 have C_4:Cal l.prog w K mg base (CX1 l.prog w) "determinant_rest" 2 ["square", "prime"] (yB K):=⟨⟨_,_,jX F_4 tt C_3 C_1 C_2,PySem.W.mg_of X G a_4,F_4.kp,b_4⟩⟩
 have C_5:Cal l.prog w K mg base (CX1 l.prog w) "greatest_of" 1 ["square"] (tO K):=⟨⟨_,_,pB F_5 tt,PySem.W.mg_of X G a_5,F_5.kp,b_5⟩⟩
 have C_6:Cal l.prog w K mg base (CX1 l.prog w) "determinant" 3 ["square"] (Ey K):=⟨⟨_,_,oW F_6 tt C_5 C_4 C_0 C_1,PySem.W.mg_of X G a_6,F_6.kp,b_6⟩⟩
 have C_7:Cal l.prog w K mg base (CX1 l.prog w) "looked_kinds" 1 ["kinds"] (lR _):=⟨⟨_,_,nH F_7 tt,PySem.W.mg_of X G a_7,F_7.kp,b_7⟩⟩
 have C_8:Cal l.prog w K mg base (CX1 l.prog w) "looked_length" 2 ["length", "kinds"] (wP _):=⟨⟨_,_,mG F_8 tt C_7,PySem.W.mg_of X G a_8,F_8.kp,b_8⟩⟩
 have C_9:Cal l.prog w K mg base (CX1 l.prog w) "letters" 2 ["kinds"] (kK _):=⟨⟨_,_,yF F_9 tt C_7,PySem.W.mg_of X G a_9,F_9.kp,b_9⟩⟩
 have C_10:Cal l.prog w K mg base (CX1 l.prog w) "looked" 3 ["word", "kinds"] (mP _):=⟨⟨_,_,Ak F_10 tt C_8 C_9,PySem.W.mg_of X G a_10,F_10.kp,b_10⟩⟩
 have C_11:Cal l.prog w K mg base (CX1 l.prog w) "looked_web" 4 ["words"] (xN K):=⟨⟨_,_,pR F_11 tt C_10,PySem.W.mg_of X G a_11,F_11.kp,b_11⟩⟩
 have C_12:Cam l.prog w K mg base (CX1 l.prog w) "Web" c_Web 5 ["self", "words"] (wT K _):=⟨⟨_,_,uW F_12 tt C_11,⟨mk_Web,a_12,i_Web_init,kc_Web⟩,PySem.W.mg_of X G y_Web,b_12⟩⟩
 have C_13:Cal l.prog w K mg base (CX1 l.prog w) "begin_of" 1 ["word"] nU:=⟨⟨_,_,vL F_13 tt,PySem.W.mg_of X G a_13,F_13.kp,b_13⟩⟩
 have C_14:Cal l.prog w K mg base (CX1 l.prog w) "end_of" 1 ["word"] zL:=⟨⟨_,_,Af F_14 tt,PySem.W.mg_of X G a_14,F_14.kp,b_14⟩⟩
 have C_15:Cal l.prog w K mg base (CX1 l.prog w) "pieces" 2 ["web"] (oI c_Web):=⟨⟨_,_,An F_15 tt C_13 C_14,PySem.W.mg_of X G a_15,F_15.kp,b_15⟩⟩
 have C_16:Cal l.prog w K mg base (CX1 l.prog w) "outs" 2 ["web", "piece"] (wQ c_Web):=⟨⟨_,_,Hy F_16 tt C_13,PySem.W.mg_of X G a_16,F_16.kp,b_16⟩⟩
 have C_17:Cal l.prog w K mg base (CX1 l.prog w) "choice_row" 2 ["texts", "text", "words"] (xZ K):=⟨⟨_,_,pP F_17 tt C_14,PySem.W.mg_of X G a_17,F_17.kp,b_17⟩⟩
 have C_18:Cal l.prog w K mg base (CX1 l.prog w) "choices_counted" 4 ["ways"] (jR K):=⟨⟨_,_,kN F_18 tt C_6 C_17,PySem.W.mg_of X G a_18,F_18.kp,b_18⟩⟩
 have C_19:Cal l.prog w K mg base (CX1 l.prog w) "ways_toward" 3 ["web", "piece"] (sP c_Web _):=⟨⟨_,_,pG F_19 tt C_15 C_16,PySem.W.mg_of X G a_19,F_19.kp,b_19⟩⟩
 have C_20:Cal l.prog w K mg base (CX1 l.prog w) "tree_count" 5 ["web", "piece"] (wV c_Web _):=⟨⟨_,_,pW F_20 tt C_18 C_19,PySem.W.mg_of X G a_20,F_20.kp,b_20⟩⟩
 have C_21:Cal l.prog w K mg base (CX1 l.prog w) "_law_cell_at" 1 ["script", "k"] (oU K):=⟨⟨_,_,nJ F_21 tt,PySem.W.mg_of X G a_21,F_21.kp,b_21⟩⟩
 have C_22:Cal l.prog w K mg base (CX1 l.prog w) "_law_whole" 1 ["found", "due"] sR:=⟨⟨_,_,pV F_22 tt,PySem.W.mg_of X G a_22,F_22.kp,b_22⟩⟩
 have C_23:Cal l.prog w K mg base (CX1 l.prog w) "_law_walk" 1 ["cells", "kinds", "first"] (xY K):=⟨⟨_,_,rY F_23 tt,PySem.W.mg_of X G a_23,F_23.kp,b_23⟩⟩
 have C_24:Cal l.prog w K mg base (CX1 l.prog w) "_law_ring_words" 2 ["script", "at", "most"] (pC K):=⟨⟨_,_,kF F_24 tt C_21 C_23,PySem.W.mg_of X G a_24,F_24.kp,b_24⟩⟩
 have C_25:Cal l.prog w K mg base (CX1 l.prog w) "_law_every" 1 ["kinds", "length"] sF:=⟨⟨_,_,pZ F_25 tt,PySem.W.mg_of X G a_25,F_25.kp,b_25⟩⟩
 have C_26:Cal l.prog w K mg base (CX1 l.prog w) "_law_digit_words" 2 ["cell", "most"] rT:=⟨⟨_,_,jV F_26 tt C_25,PySem.W.mg_of X G a_26,F_26.kp,b_26⟩⟩
 have C_27:Cal l.prog w K mg base (CX1 l.prog w) "_law_some_words" 3 ["script", "at", "most"] (tK K):=⟨⟨_,_,kI F_27 tt C_21 C_24 C_26,PySem.W.mg_of X G a_27,F_27.kp,b_27⟩⟩
 have C_28:Cal l.prog w K mg base (CX1 l.prog w) "_law_ways" 1 ["words", "piece"] (sA K):=⟨⟨_,_,tZ F_28 tt,PySem.W.mg_of X G a_28,F_28.kp,b_28⟩⟩
 have C_29:Cal l.prog w K mg base (CX1 l.prog w) "_law_comes" 1 ["chosen"] tV:=⟨⟨_,_,qC F_29 tt,PySem.W.mg_of X G a_29,F_29.kp,b_29⟩⟩
 have C_30:Cal l.prog w K mg base (CX1 l.prog w) "_law_all_choices" 2 ["ways"] xO:=⟨⟨_,_,jW F_30 tt C_29,PySem.W.mg_of X G a_30,F_30.kp,b_30⟩⟩
 have C_31:Cal l.prog w K mg base (CX1 l.prog w) "_law_cut" 1 ["ways", "cell"] Dg:=⟨⟨_,_,vK F_31 tt,PySem.W.mg_of X G a_31,F_31.kp,b_31⟩⟩
 exact Ky F_32 tt C_27 C_12 C_28 C_30 C_22 C_20 C_18 C_31 C_21
theorem walk {l : PySem.W.OpenLaw} {q : Program} {loose : List Str} {XP : (Str → Option Value) → Heap → Prop} {YP : World → Heap → Prop} {d : DefRec} {K : Params → PySem.W.Frag} (hn : l.most = some 63) (hdf : d.params.defaults = [])
  (hY : ∀ (w : World) (h : Heap), YP w h → (K w.params).In h)
  (F : ∀ (w : World) (mg : Str → Option Value) (fa : Addr) (h : Heap), (K w.params).In h → h.Ns mainGlobals mg → mg d.name = some (.ref fa) →
   ∃ fd : FuncData, (∀ (s : Shared) (u : Value), BindsTo s fd ⟨[u], []⟩ [("script", u)]) ∧ ∀ base : Heap, (K w.params).In base → base.Ns mainGlobals mg → cT l.prog w (K w.params) mg base (CX1 l.prog w) 7 fa fd ["script"] (zE (K w.params))) :
  PySem.W.WalkO q loose XP YP l.row.toRowW d [] (fun f vs => PySem.call f vs) :=
 L2.Il (n := 63) (k := 7) (x := "script") (CX := fun w => CX1 l.prog w) (sp := fun w => zE (K w.params)) hn (by decide) hdf ⟨rfl, by decide, by decide⟩ hY F (fun _ _ a ns hl _ hS => ⟨a, ns, rfl, hS, hl, fun _ => rfl⟩) fun _ _ _ _ _ ⟨_, _, _, _, _, z⟩ => z
end K31
theorem PySem.W.Fast.tw10523083011346110496:True:=trivial
theorem PySem.W.Fast.tw14939473929690930304:True:=trivial
theorem PySem.W.Fast.tw6534240561761753568:True:=trivial
theorem PySem.W.Fast.tw4681272154266771968:True:=trivial
theorem PySem.W.Fast.tw15180006638413450048:True:=trivial
theorem PySem.W.Fast.tw6175394520891796481:True:=trivial
theorem PySem.W.Fast.tw14893386633481427233:True:=trivial
theorem PySem.W.Fast.tw6774412063713532481:True:=trivial
theorem PySem.W.Fast.tw9922160461181724449:True:=trivial
theorem PySem.W.Fast.tw12006686387304569986:True:=trivial
theorem PySem.W.Fast.tw4534815346454507490:True:=trivial
theorem PySem.W.Fast.tw5207306711835707395:True:=trivial
theorem PySem.W.Fast.tw8755948237073210371:True:=trivial
theorem PySem.W.Fast.tw15072221939836730467:True:=trivial
theorem PySem.W.Fast.tw15378920818630789315:True:=trivial
theorem PySem.W.Fast.tw4986958702862250659:True:=trivial
theorem PySem.W.Fast.tw13073727881781687139:True:=trivial
theorem PySem.W.Fast.tw9028509167012552675:True:=trivial
theorem PySem.W.Fast.tw871917840709272932:True:=trivial
theorem PySem.W.Fast.tw11966798945163797605:True:=trivial
theorem PySem.W.Fast.tw10281442402940843653:True:=trivial
theorem PySem.W.Fast.tw6914110478157781701:True:=trivial
theorem PySem.W.Fast.tw13577352124331226885:True:=trivial
theorem PySem.W.Fast.tw5212313331591556134:True:=trivial
theorem PySem.W.Fast.tw18405142633508243654:True:=trivial
theorem PySem.W.Fast.tw6001798251478931750:True:=trivial
theorem PySem.W.Fast.tw4259304074586101094:True:=trivial
theorem PySem.W.Fast.tw13210557182141254054:True:=trivial
theorem PySem.W.Fast.tw15886931956961794502:True:=trivial
theorem PySem.W.Fast.tw16517712460168668646:True:=trivial
theorem PySem.W.Fast.tw2390936780629806630:True:=trivial
theorem PySem.W.Fast.tw10606605294910635558:True:=trivial
theorem PySem.W.Fast.tw6200459124590481222:True:=trivial
theorem PySem.W.Fast.tw3251166887546238886:True:=trivial
theorem PySem.W.Fast.tw10081382476271219686:True:=trivial
theorem PySem.W.Fast.tw8086926542673676583:True:=trivial
theorem PySem.W.Fast.tw7150774093586164103:True:=trivial
theorem PySem.W.Fast.tw372212450431050407:True:=trivial
theorem PySem.W.Fast.tw18434121468835555303:True:=trivial
theorem PySem.W.Fast.tw18015147814040836488:True:=trivial
theorem PySem.W.Fast.tw11476206373706317192:True:=trivial
theorem PySem.W.Fast.tw2121110040221047528:True:=trivial
theorem PySem.W.Fast.tw15481415532501547976:True:=trivial
theorem PySem.W.Fast.tw7137796751477643337:True:=trivial
theorem PySem.W.Fast.tw3325700863508778217:True:=trivial
theorem PySem.W.Fast.tw17407976082662499625:True:=trivial
theorem PySem.W.Fast.tw10494950796515357257:True:=trivial
theorem PySem.W.Fast.tw1808186105665534537:True:=trivial
theorem PySem.W.Fast.tw18190867805680316073:True:=trivial
theorem PySem.W.Fast.tw8439726196555915977:True:=trivial
theorem PySem.W.Fast.tw7267641139095601097:True:=trivial
theorem PySem.W.Fast.tw15871453198190137674:True:=trivial
theorem PySem.W.Fast.tw8675957878770192746:True:=trivial
theorem PySem.W.Fast.tw11093752509478940106:True:=trivial
theorem PySem.W.Fast.tw8751523174694139434:True:=trivial
theorem PySem.W.Fast.tw14314131448268230314:True:=trivial
theorem PySem.W.Fast.tw5669938185620630314:True:=trivial
theorem PySem.W.Fast.tw3049136164533037962:True:=trivial
theorem PySem.W.Fast.tw6565476520062840714:True:=trivial
theorem PySem.W.Fast.tw11557242811783045066:True:=trivial
theorem PySem.W.Fast.tw11390364087131957515:True:=trivial
theorem PySem.W.Fast.tw12237833765525497227:True:=trivial
theorem PySem.W.Fast.tw9963968942553175531:True:=trivial
theorem PySem.W.Fast.tw17421149283441965675:True:=trivial
theorem PySem.W.Fast.tw6629533341079939755:True:=trivial
theorem PySem.W.Fast.tw1100157573988896651:True:=trivial
theorem PySem.W.Fast.tw11496741834507292780:True:=trivial
theorem PySem.W.Fast.tw16054918134770414732:True:=trivial
theorem PySem.W.Fast.tw8944736712071888012:True:=trivial
theorem PySem.W.Fast.tw2399289341259307308:True:=trivial
theorem PySem.W.Fast.tw10284721144573024588:True:=trivial
theorem PySem.W.Fast.tw3757741711219848524:True:=trivial
theorem PySem.W.Fast.tw8838440265596482156:True:=trivial
theorem PySem.W.Fast.tw5341967372633394124:True:=trivial
theorem PySem.W.Fast.tw14002745752524624909:True:=trivial
theorem PySem.W.Fast.tw16742352013900641389:True:=trivial
theorem PySem.W.Fast.tw4193244149441567885:True:=trivial
theorem PySem.W.Fast.tw3250698925671714125:True:=trivial
theorem PySem.W.Fast.tw4522412247136399949:True:=trivial
theorem PySem.W.Fast.te14648712072963239629:True:=trivial
theorem PySem.W.Fast.tw9928573877810092749:True:=trivial
theorem PySem.W.Fast.tw14165716352723812173:True:=trivial
theorem PySem.W.Fast.tw4750556009985654798:True:=trivial
theorem PySem.W.Fast.tw17262693548490405102:True:=trivial
theorem PySem.W.Fast.tw17482157223414027982:True:=trivial
theorem PySem.W.Fast.tw2902697153681904656:True:=trivial
theorem PySem.W.Fast.tw11087236431000067120:True:=trivial
theorem PySem.W.Fast.tw12105533913928479952:True:=trivial
theorem PySem.W.Fast.tw18149815588483489841:True:=trivial
theorem PySem.W.Fast.tw6409999415743712337:True:=trivial
theorem PySem.W.Fast.tw11680238365661966993:True:=trivial
theorem PySem.W.Fast.tw15314254914028628689:True:=trivial
theorem PySem.W.Fast.tw10465060293157085009:True:=trivial
theorem PySem.W.Fast.tw11427106532219192370:True:=trivial
theorem PySem.W.Fast.tw2008038111545206898:True:=trivial
theorem PySem.W.Fast.tw4658128799810905426:True:=trivial
theorem PySem.W.Fast.tw2640462447112615250:True:=trivial
theorem PySem.W.Fast.tw4100549551682203154:True:=trivial
theorem PySem.W.Fast.tw1280452158510741523:True:=trivial
theorem PySem.W.Fast.tw10526022485959669843:True:=trivial
theorem PySem.W.Fast.tw5221521892316780851:True:=trivial
theorem PySem.W.Fast.tw18159449983681784275:True:=trivial
theorem PySem.W.Fast.tw18383512156048839155:True:=trivial
theorem PySem.W.Fast.tw6715326796364462675:True:=trivial
theorem PySem.W.Fast.tw15795810767286429363:True:=trivial
theorem PySem.W.Fast.tw2356243215273365908:True:=trivial
theorem PySem.W.Fast.tw503949998804871796:True:=trivial
theorem PySem.W.Fast.tw11200758409029523156:True:=trivial
theorem PySem.W.Fast.tw6972031753837861205:True:=trivial
theorem PySem.W.Fast.tw2706891538924839765:True:=trivial
theorem PySem.W.Fast.tw18334345538530645909:True:=trivial
theorem PySem.W.Fast.tw1800081892643446773:True:=trivial
theorem PySem.W.Fast.tw9350700135109733365:True:=trivial
theorem PySem.W.Fast.tw3310171611465258070:True:=trivial
theorem PySem.W.Fast.tw3321374987030419542:True:=trivial
theorem PySem.W.Fast.tw8031320091150057590:True:=trivial
theorem PySem.W.Fast.tw240460538121405750:True:=trivial
theorem PySem.W.Fast.tw4440214928138748598:True:=trivial
theorem PySem.W.Fast.tw17925732442714381367:True:=trivial
theorem PySem.W.Fast.tw7423736194207388983:True:=trivial
theorem PySem.W.Fast.tw4106685521696684343:True:=trivial
theorem PySem.W.Fast.tw14160704105392908727:True:=trivial
theorem PySem.W.Fast.tw7079949769549641816:True:=trivial
theorem PySem.W.Fast.tw11966467062758674584:True:=trivial
theorem PySem.W.Fast.tw8167967519875146904:True:=trivial
theorem PySem.W.Fast.tw12770407055537001880:True:=trivial
theorem PySem.W.Fast.tw16482624749530967512:True:=trivial
theorem PySem.W.Fast.tw1820599173525106232:True:=trivial
theorem PySem.W.Fast.tw4922568761682512472:True:=trivial
theorem PySem.W.Fast.tw1395597139167575672:True:=trivial
theorem PySem.W.Fast.tw10400372561952574168:True:=trivial
theorem PySem.W.Fast.tw5381151624188835640:True:=trivial
theorem PySem.W.Fast.tw10410516353819887544:True:=trivial
theorem PySem.W.Fast.tw13008255347909952569:True:=trivial
theorem PySem.W.Fast.tw16693678155416600665:True:=trivial
theorem PySem.W.Fast.tw15000896209796275449:True:=trivial
theorem PySem.W.Fast.tw18183634086647390649:True:=trivial
theorem PySem.W.Fast.tw8775163264230068729:True:=trivial
theorem PySem.W.Fast.tw15372718222521456153:True:=trivial
theorem PySem.W.Fast.tw17987274798405941881:True:=trivial
theorem PySem.W.Fast.tw2100766288722547577:True:=trivial
theorem PySem.W.Fast.tw7236548658460748729:True:=trivial
theorem PySem.W.Fast.tw14431145218718018746:True:=trivial
theorem PySem.W.Fast.tw16678965562599914682:True:=trivial
theorem PySem.W.Fast.tw8951196631310125242:True:=trivial
theorem PySem.W.Fast.tw4850783885316677018:True:=trivial
theorem PySem.W.Fast.tw18218215715420483994:True:=trivial
theorem PySem.W.Fast.tw5510743854284000058:True:=trivial
theorem PySem.W.Fast.tw3494559605567980474:True:=trivial
theorem PySem.W.Fast.tw16242735762204671163:True:=trivial
theorem PySem.W.Fast.tw8636435119991434459:True:=trivial
theorem PySem.W.Fast.tw13814679919515365691:True:=trivial
theorem PySem.W.Fast.tw13991867467690115547:True:=trivial
theorem PySem.W.Fast.tw542125918050846523:True:=trivial
theorem PySem.W.Fast.tw6177555950749657276:True:=trivial
theorem PySem.W.Fast.tw14021769146801477757:True:=trivial
theorem PySem.W.Fast.tw7597678853268017309:True:=trivial
theorem PySem.W.Fast.tw16610533805952362749:True:=trivial
theorem PySem.W.Fast.tw10552278869856641597:True:=trivial
theorem PySem.W.Fast.tw6702281591555884637:True:=trivial
theorem PySem.W.Fast.tw2607213607402982045:True:=trivial
theorem PySem.W.Fast.tw8563887556786585565:True:=trivial
theorem PySem.W.Fast.tw1801859555072070653:True:=trivial
theorem PySem.W.Fast.tw7712483964323463486:True:=trivial
theorem PySem.W.Fast.tw5970632932278368638:True:=trivial
theorem PySem.W.Fast.tw14059164333416318942:True:=trivial
theorem PySem.W.Fast.tw2416030753799601183:True:=trivial
theorem PySem.W.Fast.tw13728938336320403839:True:=trivial
theorem PySem.W.Fast.tw48049546472017311:True:=trivial
theorem PySem.W.Fast.tw16511659022667830911:True:=trivial
def PySem.W.Fast.tw1617741431541490746:=PySem.Challenge.pw_onceround_k31_trees_counted_by_trial
theorem PySem.W.Fast.te1617741431541490746:PySem.Challenge.pw_onceround_k31_trees_counted_by_trial=PySem.W.Fast.tw1617741431541490746:=rfl
end
open PySem PySem.W PyProof.Rows
set_option maxRecDepth 100000 in
set_option maxHeartbeats 0 in
theorem PySem.Challenge.cw_onceround_k31_trees_counted_by_trial_holds : PySem.Challenge.rw_onceround_k31_trees_counted_by_trial.Holds := by
  w_on; o_law; k_head; (case hw => w_witness2)
  k_fill
  refine K31.walk (l := PySem.Challenge.rw_onceround_k31_trees_counted_by_trial) rfl rfl (fun w h Y => PySem.W.kIn_of Y) ?F
  case F =>
    intro w mg fa h KX G hmg
    refine' K31.all_mk KX G hmg ?a_0 ?l_0 ?c_0 ?k_0 ?a_1 ?l_1 ?c_1 ?k_1 ?a_2 ?l_2 ?c_2 ?k_2 ?a_3 ?l_3 ?c_3 ?k_3 ?a_4 ?l_4 ?c_4 ?k_4 ?a_5 ?l_5 ?c_5 ?k_5 ?a_6 ?l_6 ?c_6 ?k_6 ?a_7 ?l_7 ?c_7 ?k_7 ?a_8 ?l_8 ?c_8 ?k_8 ?a_9 ?l_9 ?c_9 ?k_9 ?a_10 ?l_10 ?c_10 ?k_10 ?a_11 ?l_11 ?c_11 ?k_11 ?a_12 ?l_12 ?c_12 ?k_12 ?i_Web_init ?a_13 ?l_13 ?c_13 ?k_13 ?a_14 ?l_14 ?c_14 ?k_14 ?a_15 ?l_15 ?c_15 ?k_15 ?a_16 ?l_16 ?c_16 ?k_16 ?a_17 ?l_17 ?c_17 ?k_17 ?a_18 ?l_18 ?c_18 ?k_18 ?a_19 ?l_19 ?c_19 ?k_19 ?a_20 ?l_20 ?c_20 ?k_20 ?a_21 ?l_21 ?c_21 ?k_21 ?a_22 ?l_22 ?c_22 ?k_22 ?a_23 ?l_23 ?c_23 ?k_23 ?a_24 ?l_24 ?c_24 ?k_24 ?a_25 ?l_25 ?c_25 ?k_25 ?a_26 ?l_26 ?c_26 ?k_26 ?a_27 ?l_27 ?c_27 ?k_27 ?a_28 ?l_28 ?c_28 ?k_28 ?a_29 ?l_29 ?c_29 ?k_29 ?a_30 ?l_30 ?c_30 ?k_30 ?a_31 ?l_31 ?c_31 ?k_31 ?a_32 ?l_32 ?c_32 ?k_32 ?z_abs ?z_bool ?z_dict ?z_enumerate ?z_int ?z_isinstance ?z_len ?z_list ?z_range ?z_set ?z_sorted ?z_sum ?z_tuple ?z_zip ?y_BadKinds ?y_BadWord ?y_TooMany ?y_NoSuch ?y_Web ?y_KNOWN_TIMES ?e_BadKinds ?e_BadWord ?e_TooMany ?e_NoSuch ?g_LETTERS ?r_LETTERS ?g_LONGEST ?r_LONGEST ?g_MOST_OF_A_WEB ?r_MOST_OF_A_WEB ?g_LONGEST_OF_A_WEB ?r_LONGEST_OF_A_WEB ?g_FIRST_PRIME ?r_FIRST_PRIME ?g_STEP ?r_STEP ?kt ?pg_Web ?hd_Web ?po_Web ?sa_Web ?mk_Web ?kc_Web ?na_Web_words ?na_Web_length
    (case y_Web => k_is)
    (case a_0 => k_is)
    (case l_0 => k_is)
    (case c_0 => k_is)
    (case k_0 => k_is)
    (case a_1 => k_is)
    (case l_1 => k_is)
    (case c_1 => k_is)
    (case k_1 => k_is)
    (case a_2 => k_is)
    (case l_2 => k_is)
    (case c_2 => k_is)
    (case k_2 => k_is)
    (case a_3 => k_is)
    (case l_3 => k_is)
    (case c_3 => k_is)
    (case k_3 => k_is)
    (case a_4 => k_is)
    (case l_4 => k_is)
    (case c_4 => k_is)
    (case k_4 => k_is)
    (case a_5 => k_is)
    (case l_5 => k_is)
    (case c_5 => k_is)
    (case k_5 => k_is)
    (case a_6 => k_is)
    (case l_6 => k_is)
    (case c_6 => k_is)
    (case k_6 => k_is)
    (case a_7 => k_is)
    (case l_7 => k_is)
    (case c_7 => k_is)
    (case k_7 => k_is)
    (case a_8 => k_is)
    (case l_8 => k_is)
    (case c_8 => k_is)
    (case k_8 => k_is)
    (case a_9 => k_is)
    (case l_9 => k_is)
    (case c_9 => k_is)
    (case k_9 => k_is)
    (case a_10 => k_is)
    (case l_10 => k_is)
    (case c_10 => k_is)
    (case k_10 => k_is)
    (case a_11 => k_is)
    (case l_11 => k_is)
    (case c_11 => k_is)
    (case k_11 => k_is)
    (case a_12 => k_is)
    (case l_12 => k_is)
    (case c_12 => k_is)
    (case k_12 => k_is)
    (case a_13 => k_is)
    (case l_13 => k_is)
    (case c_13 => k_is)
    (case k_13 => k_is)
    (case a_14 => k_is)
    (case l_14 => k_is)
    (case c_14 => k_is)
    (case k_14 => k_is)
    (case a_15 => k_is)
    (case l_15 => k_is)
    (case c_15 => k_is)
    (case k_15 => k_is)
    (case a_16 => k_is)
    (case l_16 => k_is)
    (case c_16 => k_is)
    (case k_16 => k_is)
    (case a_17 => k_is)
    (case l_17 => k_is)
    (case c_17 => k_is)
    (case k_17 => k_is)
    (case a_18 => k_is)
    (case l_18 => k_is)
    (case c_18 => k_is)
    (case k_18 => k_is)
    (case a_19 => k_is)
    (case l_19 => k_is)
    (case c_19 => k_is)
    (case k_19 => k_is)
    (case a_20 => k_is)
    (case l_20 => k_is)
    (case c_20 => k_is)
    (case k_20 => k_is)
    (case a_21 => k_is)
    (case l_21 => k_is)
    (case c_21 => k_is)
    (case k_21 => k_is)
    (case a_22 => k_is)
    (case l_22 => k_is)
    (case c_22 => k_is)
    (case k_22 => k_is)
    (case a_23 => k_is)
    (case l_23 => k_is)
    (case c_23 => k_is)
    (case k_23 => k_is)
    (case a_24 => k_is)
    (case l_24 => k_is)
    (case c_24 => k_is)
    (case k_24 => k_is)
    (case a_25 => k_is)
    (case l_25 => k_is)
    (case c_25 => k_is)
    (case k_25 => k_is)
    (case a_26 => k_is)
    (case l_26 => k_is)
    (case c_26 => k_is)
    (case k_26 => k_is)
    (case a_27 => k_is)
    (case l_27 => k_is)
    (case c_27 => k_is)
    (case k_27 => k_is)
    (case a_28 => k_is)
    (case l_28 => k_is)
    (case c_28 => k_is)
    (case k_28 => k_is)
    (case a_29 => k_is)
    (case l_29 => k_is)
    (case c_29 => k_is)
    (case k_29 => k_is)
    (case a_30 => k_is)
    (case l_30 => k_is)
    (case c_30 => k_is)
    (case k_30 => k_is)
    (case a_31 => k_is)
    (case l_31 => k_is)
    (case c_31 => k_is)
    (case k_31 => k_is)
    (case a_32 => k_is)
    (case l_32 => k_is)
    (case c_32 => k_is)
    (case k_32 => k_is)
    (case z_abs => k_is)
    (case z_bool => k_is)
    (case z_dict => k_is)
    (case z_enumerate => k_is)
    (case z_int => k_is)
    (case z_isinstance => k_is)
    (case z_len => k_is)
    (case z_list => k_is)
    (case z_range => k_is)
    (case z_set => k_is)
    (case z_sorted => k_is)
    (case z_sum => k_is)
    (case z_tuple => k_is)
    (case z_zip => k_is)
    (case y_BadKinds => k_is)
    (case y_BadWord => k_is)
    (case y_TooMany => k_is)
    (case y_NoSuch => k_is)
    (case y_KNOWN_TIMES => k_is)
    (case e_BadKinds => kernel_rfl)
    (case e_BadWord => kernel_rfl)
    (case e_TooMany => kernel_rfl)
    (case e_NoSuch => kernel_rfl)
    (case g_LETTERS => k_is)
    (case r_LETTERS => exact ⟨_, rfl⟩)
    (case g_LONGEST => k_is)
    (case r_LONGEST => exact ⟨_, rfl⟩)
    (case g_MOST_OF_A_WEB => k_is)
    (case r_MOST_OF_A_WEB => exact ⟨_, rfl⟩)
    (case g_LONGEST_OF_A_WEB => k_is)
    (case r_LONGEST_OF_A_WEB => exact ⟨_, rfl⟩)
    (case g_FIRST_PRIME => k_is)
    (case r_FIRST_PRIME => exact ⟨_, rfl⟩)
    (case g_STEP => k_is)
    (case r_STEP => exact ⟨_, rfl⟩)
    (case kt => kernel_rfl)
    (case pg_Web => k_is)
    (case hd_Web => k_is)
    (case po_Web => k_is)
    (case sa_Web => k_is)
    (case mk_Web => k_is)
    (case kc_Web => k_is)
    (case na_Web_words => k_is)
    (case na_Web_length => k_is)
    (case i_Web_init => k_is)
#print axioms PySem.Challenge.cw_onceround_k31_trees_counted_by_trial_holds
