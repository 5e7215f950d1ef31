import PyProof.Rows.All
import Wide.All
import OpenK.AllK
import Wide.FinOn
import Lean
import PyProof.EqAt
import PyProof.EqKinds
import PyProof.TupleCall
import PySem.Challenge.RW_onceround_k33_trees_there_and_back
set_option genSizeOfSpec false
set_option bootstrap.genMatcherCode false
set_option Elab.async false
set_option linter.all false
set_option maxRecDepth 100000
set_option maxHeartbeats 4000000
noncomputable section
namespace L2
open PySem PySem.Spec PyProof.Rows
abbrev Key:=Sum Int Str
def pS:Key->Value->Bool
 | .inl k,v=>Value.isInt k v
 | .inr x,v=>Value.isStrOf x v
def Pw (w:World):Key->Int
 | .inl k=>hashInt k
 | .inr x=>hashStr w x
theorem cR:∀ {k:Key} {v:Value},pS k v=true->(∃ i t,k=Sum.inl i∧v=Value.int i t)∨(∃ x t,k=Sum.inr x∧v=Value.str x t)
 | .inl i,v,h=>by
  obtain ⟨t,e⟩:=Value.isInt_shape (k:=i) (v:=v) h;exact .inl ⟨i,t,rfl,e⟩
 | .inr x,v,h=>by
  obtain ⟨t,e⟩:=Value.isStrOf_shape (x:=x) (v:=v) h;exact .inr ⟨x,t,rfl,e⟩
theorem Ea (i:Int)(t:Tok):pS (.inl i) (.int i t)=true:=by simp [pS,Value.isInt]
theorem Cm (x:Str)(t:Tok):pS (.inr x) (.str x t)=true:=by simp [pS,Value.isStrOf]
theorem Ln (a b:Int):decide ((Sum.inl a:Key)=Sum.inl b)=(a==b):=by
 by_cases e:a=b
 ·subst e;simp
 ·have h:¬ (Sum.inl a:Key)=Sum.inl b:=fun q=>e (Sum.inl.inj q)
  rw [decide_eq_false h];exact (beq_eq_false_iff_ne.mpr e).symm
theorem Li (a b:Str):decide ((Sum.inr a:Key)=Sum.inr b)=decide (a=b):=by
 by_cases e:a=b
 ·subst e;simp
 ·have h:¬ (Sum.inr a:Key)=Sum.inr b:=fun q=>e (Sum.inr.inj q)
  rw [decide_eq_false h,decide_eq_false e]
theorem Lg (a:Int)(b:Str):decide ((Sum.inl a:Key)=Sum.inr b)=false:=decide_eq_false (fun q=>nomatch q)
theorem Nc (a:Str)(b:Int):decide ((Sum.inr a:Key)=Sum.inl b)=false:=decide_eq_false (fun q=>nomatch q)
def bH (prog:Program)(w:World):PySem.KeyKind prog w Key where
 is:=pS
 hash:=Pw w
 inj:=fun v a b ha hb=>by
  rcases cR ha with ⟨i,t,rfl,rfl⟩ | ⟨x,t,rfl,rfl⟩
  ·rcases cR hb with ⟨j,u,rfl,e⟩ | ⟨y,u,rfl,e⟩
   ·injection e with e1 _;rw [e1]
   ·exact nomatch e
  ·rcases cR hb with ⟨j,u,rfl,e⟩ | ⟨y,u,rfl,e⟩
   ·exact nomatch e
   ·injection e with e1 _;rw [e1]
 byValue:=fun k v h=>by
  rcases cR h with ⟨i,t,rfl,rfl⟩ | ⟨x,t,rfl,rfl⟩ <;> rfl
 pyHash:=fun hv h=>by
  rcases cR hv with ⟨i,t,rfl,rfl⟩ | ⟨x,t,rfl,rfl⟩
  ·exact wpAny_pyHash_int h
  ·exact wpAny_pyHash_str h
 eqBool:=fun hu hv h=>by
  rcases cR hu with ⟨i,t,rfl,rfl⟩ | ⟨x,t,rfl,rfl⟩
  ·rcases cR hv with ⟨j,u,rfl,rfl⟩ | ⟨y,u,rfl,rfl⟩
   ·rw [Ln] at h;exact wpAny_eqBool_int h
   ·rw [Lg] at h;exact SeqAt.EqAt.int_str i t y u _ _ _ _ h
  ·rcases cR hv with ⟨j,u,rfl,rfl⟩ | ⟨y,u,rfl,rfl⟩
   ·rw [Nc] at h;exact SeqAt.EqAt.str_int x t j u _ _ _ _ h
   ·rw [Li] at h;exact wpAny_eqBool_str h
 «strs» := fun k x t v h=>by
  rcases cR h with ⟨i,u,rfl,e⟩ | ⟨y,u,rfl,e⟩
  ·exact nomatch e
  ·injection e with e1 _
   subst e1;cases v <;> rfl
theorem xU (prog:Program)(w:World)(i:Int)(t:Tok):(bH prog w).is (.inl i) (.int i t)=true:=Ea i t
theorem xO (prog:Program)(w:World)(x:Str)(t:Tok):(bH prog w).is (.inr x) (.str x t)=true:=Cm x t
inductive V where
 | non | bl (b:Bool) | int (i:Int) | str (x:Str) | byt (b:Array UInt8) | flt (b:UInt64) | ref (a:Addr) | ty (n:String)
 deriving DecidableEq
def bE:V->Value->Prop
 | .non,u=>u=Value.none
 | .bl b,u=>u=Value.bool b
 | .int i,u=>∃ t,u=Value.int i t
 | .str x,u=>∃ t,u=Value.str x t
 | .byt b,u=>∃ t,u=Value.bytes b t
 | .flt b,u=>∃ t,u=Value.float b t
 | .ref a,u=>u=Value.ref a
 | .ty n,u=>u=Value.type n
abbrev bT:List V->List Value->Prop:=Paired bE
theorem bT.length {xs:List V}{us:List Value}(r:bT xs us):xs.length=us.length:=Paired.length r
theorem bT.get:∀ {xs:List V} {us:List Value} {i:Nat} {x:V},bT xs us->xs[i]?=some x->∃ u,us[i]?=some u∧bE x u
 | _,_,_,_,.nil,e=>by simp at e
 | _,_,0,_,.cons r _,e=>by simp at e;subst e;exact ⟨_,rfl,r⟩
 | _,_,i+1,x,.cons _ t,e=>by
  obtain ⟨u,h1,h2⟩:=bT.get (i:=i) (x:=x) t (by simpa using e);exact ⟨u,by simpa using h1,h2⟩
theorem bT.append:∀ {xs ys:List V} {us ws:List Value},bT xs us->bT ys ws->bT (xs++ys) (us++ws)
 | _,_,_,_,.nil,s=>s
 | _,_,_,_,.cons r t,s=>.cons r (bT.append t s)
theorem bT.take:∀ {xs:List V} {us:List Value} (n:Nat),bT xs us->bT (xs.take n) (us.take n)
 | _,_,0,_=>.nil
 | _,_,_+1,.nil=>.nil
 | _,_,n+1,.cons r t=>.cons r (bT.take n t)
theorem bT.drop:∀ {xs:List V} {us:List Value} (n:Nat),bT xs us->bT (xs.drop n) (us.drop n)
 | _,_,0,r=>r
 | _,_,_+1,.nil=>.nil
 | _,_,n+1,.cons _ t=>bT.drop n t
def iF:Option V->Option Value->Prop
 | some v,some u=>bE v u
 | none,none=>True
 | _,_=>False
def KV {κ:Type}:List (κ×V)->List (κ×Value)->Prop:=Paired fun (p:κ×V) (q:κ×Value)=>p.1=q.1∧bE p.2 q.2
def kV:Key->V
 | .inl i=>.int i
 | .inr x=>.str x
inductive HO where
 | lst (xs:List V)
 | tup (xs:List V)
 | dK (kvs:List (Key×V)) | dT (kvs:List (List Key×V))
 | set (S:Int->Bool) (n:Nat)
 | ins (C dx:Addr) (fs:List (Str×V))
 | own (x:Addr)
 | xd (fs:List (Str×V))
 | met (f x:Addr)
 | rng (lo hi:Int)
 | frz (o:Obj) (u:HO)
 | tbl (ps:Array Value)
 | ext (φ:Heap->Prop)
abbrev Hp:=Addr->Option HO
def upd (H:Hp)(a:Addr)(o:HO):Hp:=fun b=>if b=a then some o else H b
theorem aC {H:Hp}{a:Addr}{o:HO}:upd H a o a=some o:=by unfold upd;rw [if_pos rfl]
theorem aH {H:Hp}{a b:Addr}{o:HO}(h:b≠a):upd H a o b=H b:=by unfold upd;rw [if_neg h]
theorem Bb {H:Hp}{a:Addr}{o u:HO}:upd (upd H a o) a u=upd H a u:=by
 funext b;unfold upd;split <;> rfl
theorem Ov {H:Hp}{a b:Addr}{o u:HO}(h:H a=some o)(h':H b=some u)(d:o≠u):a≠b:=by
 intro e;subst e;rw [h] at h';exact d (Option.some.inj h')
theorem aK {H:Hp}{a b:Addr}{o:HO}(h:H a=some o)(h':H b=none):a≠b:=by
 intro e;subst e;rw [h] at h';cases h'
section
variable (P:Program)(w:World)
def cG (H:Hp)(h:Heap)(a:Addr):HO->Prop
 | .lst xs=>xs.length<=sizeLine∧∃ (its:List Value) (n:Nat),bT xs its∧h.get? a=some { cls:=.type "list",data:=.seq its.toArray n }
 | .tup xs=>xs.length<=sizeLine∧∃ its:List Value,bT xs its∧IsTup h a its.toArray
 | .dK kvs=>kvs.length<=sizeLine∧(a==sysModules)=false∧∃ vs,KV kvs vs∧h.DictOf (bH P w) a vs
 | .dT kvs=>kvs.length<=sizeLine∧(a==sysModules)=false∧∃ xs:List (List Key×Addr×Value),
  Paired (fun (p:List Key×V) (q:List Key×Addr×Value)=>p.1=q.1∧H q.2.1=some (.tup (p.1.map kV))∧bE p.2 q.2.2) kvs xs ∧
  ∃ o es ep,h.get? a=some o∧o.ExactDict∧o.data = .dict es ep∧es.toList=xs.map (entryOfKey (tupleKind (bH P w)))∧(xs.map (·.1)).Nodup
 | .set S n=>h.SetOf (intKind P w) a S n
 | .ins C dx fs=>H dx=some (.own a)∧fs.length<=1000∧dx≠a∧h.get? a=some (PySem.W.instObj C dx) ∧
  ∃ mA,h.Ns1 dx mA∧(∀ f,iF (fs.lookup f) (mA f))∧PySem.Within mA (fs.map (·.1))
 | .own _=>∃ o,h.get? a=some o
 | .xd fs=>∃ mA,h.Ns1 a mA∧∀ f,iF (fs.lookup f) (mA f)
 | .rng lo hi=>∃ t u v,h.get? a=some { cls:=.type "range",data:=.fields #[.int lo t,.int hi u,.int 1 v] }
 | .frz o u=>h.get? a=some o∧cG H h a u
 | .tbl ps=>h.get? a=some { cls:=.none,data:=.fields ps }
 | .met f x=>h.get? a=some (PySem.W.methodObj (.ref f) (.ref x))
 | .ext φ=>φ h∧(∃ o,h.get? a=some o)∧∀ h1 h2:Heap,φ h1->(∀ o,h1.get? a=some o->h2.get? a=some o)->φ h2
def HOk (H:Hp)(h:Heap):Prop:=∀ a o,H a=some o->cG P w H h a o
end
section
variable {P:Program}{w:World}{H H':Hp}{h h':Heap}{a:Addr}{o:HO}
theorem cG.lt (x:cG P w H h a o):a<h.objs.size:=by
 cases o with
 | lst xs=>obtain ⟨_,_,_,_,e⟩:=x;exact Heap.lt_size e
 | tup xs=>obtain ⟨_,_,_,p⟩:=x;exact p.lt
 | dK kvs=>obtain ⟨_,_,_,_,o,_,_,e,_⟩:=x;exact Heap.lt_size e
 | dT kvs=>obtain ⟨_,_,_,_,o,_,_,e,_⟩:=x;exact Heap.lt_size e
 | set S n=>obtain ⟨o,_,_,_,e,_⟩:=x;exact Heap.lt_size e
 | ins C dx fs=>obtain ⟨_,_,_,e,_⟩:=x;exact Heap.lt_size e
 | own y=>obtain ⟨_,e⟩:=x;exact Heap.lt_size e
 | xd fs=>obtain ⟨_,⟨_,_,_,e,_⟩,_⟩:=x;exact Heap.lt_size e
 | rng lo hi=>obtain ⟨_,_,_,e⟩:=x;exact Heap.lt_size e
 | frz ob u=>obtain ⟨e,_⟩:=x;exact Heap.lt_size e
 | tbl ps=>exact Heap.lt_size (show h.get? a=some _ from x)
 | met f y=>exact Heap.lt_size (show h.get? a=some _ from x)
 | ext φ=>obtain ⟨_,⟨_,e⟩,_⟩:=x;exact Heap.lt_size e
theorem Paired.mapP {α β:Type}{F G:α->β->Prop}:∀ {l₁:List α} {l₂:List β},Paired F l₁ l₂->(∀ a b,F a b->G a b)->Paired G l₁ l₂
 | _,_,.nil,_=>.nil
 | _,_,.cons r t,f=>.cons (f _ _ r) (Paired.mapP t f)
theorem cG.stay (x:cG P w H h a o)(k:∀ b u,(b=a∨H b=some (.own a))->h.get? b=some u->h'.get? b=some u)
  (ho:∀ b,H b=some (.own a)->H' b=some (.own a)) (ht:∀ b xs,H b=some (.tup xs)->H' b=some (.tup xs)):cG P w H' h' a o:=by
 induction o with
 | lst xs=>obtain ⟨z,its,n,r,e⟩:=x;exact ⟨z,its,n,r,k _ _ (.inl rfl) e⟩
 | tup xs=>obtain ⟨z,its,r,ob,e,c⟩:=x;exact ⟨z,its,r,ob,k _ _ (.inl rfl) e,c⟩
 | dK kvs=>obtain ⟨z,y,vs,r,ob,es,ep,e,c⟩:=x;exact ⟨z,y,vs,r,ob,es,ep,k _ _ (.inl rfl) e,c⟩
 | dT kvs =>
  obtain ⟨z,y,xs,r,ob,es,ep,e,c⟩:=x;exact ⟨z,y,xs,Paired.mapP r fun p q z=>⟨z.1,ht _ _ z.2.1,z.2.2⟩,ob,es,ep,k _ _ (.inl rfl) e,c⟩
 | set S n=>obtain ⟨ob,es,ep,t,e,c⟩:=x;exact ⟨ob,es,ep,t,k _ _ (.inl rfl) e,c⟩
 | ins C dx fs =>
  obtain ⟨d,z,ne,e,mA,⟨od,es,ep,e2,c⟩,r⟩:=x;exact ⟨ho _ d,z,ne,k _ _ (.inl rfl) e,mA,⟨od,es,ep,k _ _ (.inr d) e2,c⟩,r⟩
 | own y=>obtain ⟨ob,e⟩:=x;exact ⟨ob,k _ _ (.inl rfl) e⟩
 | xd fs=>obtain ⟨mA,⟨od,es,ep,e,c⟩,r⟩:=x;exact ⟨mA,⟨od,es,ep,k _ _ (.inl rfl) e,c⟩,r⟩
 | rng lo hi=>obtain ⟨t,u,v,e⟩:=x;exact ⟨t,u,v,k _ _ (.inl rfl) e⟩
 | frz ob u ih=>obtain ⟨e,q⟩:=x;exact ⟨k _ _ (.inl rfl) e,ih q⟩
 | tbl ps =>
  have e:h.get? a=some { cls:=.none,data:=.fields ps }:=x;show h'.get? a=some { cls:=.none,data:=.fields ps };exact k a _ (.inl rfl) e
 | met f y =>
  have e:h.get? a=some (PySem.W.methodObj (.ref f) (.ref y)):=x;show h'.get? a=some (PySem.W.methodObj (.ref f) (.ref y));exact k a _ (.inl rfl) e
 | ext φ=>obtain ⟨p,⟨o,e⟩,st⟩:=x;exact ⟨st _ _ p fun o q=>k _ _ (.inl rfl) q,⟨o,k _ _ (.inl rfl) e⟩,st⟩
theorem HOk.lt (x:HOk P w H h)(e:H a=some o):a<h.objs.size:=(x a o e).lt
theorem HOk.fresh (x:HOk P w H h)(e:h.objs.size<=a):H a=none:=by
 cases q:H a with
 | none=>rfl
 | some u=>exact absurd (Nat.lt_of_lt_of_le (x.lt q) e) (Nat.lt_irrefl _)
theorem HOk.kept (x:HOk P w H h)(k:∀ b u,h.get? b=some u->h'.get? b=some u):HOk P w H h':=fun a o e =>
 (x a o e).stay (fun b u _ q=>k b u q) (fun _ q=>q) fun _ _ q=>q
theorem HOk.laid (x:HOk P w H h)(k:∀ b u,h.get? b=some u->h'.get? b=some u)(hp:h.objs.size<=a)(new:cG P w (upd H a o) h' a o):HOk P w (upd H a o) h':=fun b u e=>by
 have hn:=x.fresh hp;by_cases hb:b=a
 ·subst hb;rw [aC] at e;cases e;exact new
 ·rw [aH hb] at e
  exact (x b u e).stay (fun c v _ q=>k c v q) (fun c q=>by rw [aH (aK q hn)];exact q) fun c xs q=>by rw [aH (aK q hn)];exact q
end
def Rd (H:Hp)(a:Addr)(u:HO):Prop:=H a=some u∨∃ o,H a=some (.frz o u)
theorem Rd.ok {P:Program}{w:World}{H:Hp}{h:Heap}{a:Addr}{u:HO}(r:Rd H a u)(x:HOk P w H h):cG P w H h a u:=by
 rcases r with r | ⟨o,r⟩
 ·exact x a u r
 ·obtain ⟨_,q⟩:=x a _ r
  exact q
def Mut:Option HO->Prop
 | some (.lst _)=>True
 | some (.dK _)=>True
 | some (.dT _)=>True
 | some (.set _ _)=>True
 | some (.ins _ _ _)=>True
 | some (.ext _)=>True
 | _=>False
section
variable {P:Program}{w:World}{H:Hp}{h h':Heap}{x e:Addr}{o':HO}
theorem HOk.write (ok:HOk P w H h)(mu:Mut (H x))(he:e=x∨H e=some (.own x))(k:∀ b u,b≠e->h.get? b=some u->h'.get? b=some u)(heo:∃ u,h'.get? e=some u)
  (new:cG P w (upd H x o') h' x o'):HOk P w (upd H x o') h':=fun b u q=>by
 have nown:∀ c y,H c=some (.own y)->c≠x:=fun c y r z=>by subst z;rw [r] at mu;exact mu
 have ntup:∀ c xs,H c=some (.tup xs)->c≠x:=fun c xs r z=>by subst z;rw [r] at mu;exact mu
 by_cases hb:b=x
 ·subst hb;rw [aC] at q;cases q;exact new
 ·rw [aH hb] at q
  by_cases hbe:b=e
  ·have q':H b=some (.own x):=by
    rcases he with z | z
    ·exact absurd (hbe.trans z) hb
    ·rw [hbe];exact z
   rw [q] at q';cases q';obtain ⟨v,hv⟩:=heo;exact ⟨v,by rw [hbe];exact hv⟩
  ·refine (ok b u q).stay (fun c v hc r=>k c v ?_ r) (fun c r=>by rw [aH (nown c b r)];exact r) fun c xs r=>by rw [aH (ntup c xs r)];exact r
   rcases hc with rfl | hc
   ·exact hbe
   ·rintro rfl
    rcases he with z | z
    ·exact nown c b hc z
    ·rw [hc] at z;cases z;exact hb rfl
end
set_option genInjectivity false in
structure Un (fs ex:List Addr)(H H':Hp)(h h':Heap):Prop where
 keep:∀ b o,h.get? b=some o->H b=none->b∉fs->b∉ex->h'.get? b=some o
 slot:∀ b o,h.get? b=some o->H b=none->b∈fs->b∉ex->∃ sl,h'.get? b=some { o with slots:=sl }
 free:∀ b o,h.get? b=some o->H b=none->b∉ex->H' b=none
 there:∀ b o,h.get? b=some o->b∉ex->∃ o',h'.get? b=some o'
 tups:∀ b xs,H b=some (.tup xs)->H' b=some (.tup xs)
 frzs:∀ b o u,H b=some (.frz o u)->H' b=some (.frz o u)
 tbls:∀ b ps,H b=some (.tbl ps)->∃ more,H' b=some (.tbl (ps++more))
section
variable {fs fs' ex ex':List Addr}{H H1 H2:Hp}{h h1 h2 h':Heap}{a x e:Addr}{o:HO}
theorem Un.any (u:Un fs ex H H1 h h1){b:Addr}{ob:Obj}(q:h.get? b=some ob)(n:H b=none)(hx:b∉ex):∃ sl,h1.get? b=some { ob with slots:=sl }:=by
 by_cases hb:b∈fs
 ·exact u.slot b ob q n hb hx
 ·exact ⟨ob.slots,u.keep b ob q n hb hx⟩
theorem Un.kept (k:∀ b u,h.get? b=some u->h'.get? b=some u):Un fs ex H H h h' :=
 ⟨fun b ob q _ _ _=>k b ob q,fun b ob q _ _ _=>⟨ob.slots,k b ob q⟩,fun _ _ _ n _=>n,fun b ob q _=>⟨ob,k b ob q⟩,fun _ _ q=>q,fun _ _ _ q=>q,fun _ ps q=>⟨#[],by rw [q];simp⟩⟩
theorem Un.refl:Un fs ex H H h h:=Un.kept fun _ _ q=>q
theorem Un.laid (k:∀ b u,h.get? b=some u->h'.get? b=some u)(hp:h.objs.size<=a)(hn:H a=none):Un fs ex H (upd H a o) h h' where
 keep:=fun b u q _ _ _=>k b u q
 slot:=fun b u q _ _ _=>⟨u.slots,k b u q⟩
 free:=fun b u q n _=>by rw [aH (Nat.ne_of_lt (Nat.lt_of_lt_of_le (Heap.lt_size q) hp))];exact n
 there:=fun b u q _=>⟨u,k b u q⟩
 tups:=fun b xs q=>by rw [aH (aK q hn)];exact q
 frzs:=fun b u xs q=>by rw [aH (aK q hn)];exact q
 tbls:=fun b ps q=>⟨#[],by rw [aH (aK q hn),q];simp⟩
theorem Un.write (mu:Mut (H x))(he:e=x∨H e=some (.own x))(k:∀ b u,b≠e->h.get? b=some u->h'.get? b=some u)(heo:∃ u,h'.get? e=some u):Un fs ex H (upd H x o) h h':=by
 have hx:∀ b,H b=none->b≠x:=fun b n z=>by subst z;rw [n] at mu;exact mu
 have hb:∀ b,H b=none->b≠e:=fun b n z=>by
  subst z;rcases he with r | r
  ·exact hx b n r
  ·rw [n] at r;cases r
 have hm:∀ b u,H b=some u->¬ Mut (some u)->b≠x:=fun b u q nm z=>by subst z;rw [q] at mu;exact nm mu
 refine ⟨fun b u q n _ _=>k b u (hb b n) q,fun b u q n _ _=>⟨u.slots,k b u (hb b n) q⟩,fun b u q n _=>by rw [aH (hx b n)];exact n,fun b u q _=>?_,
  fun b xs q=>by rw [aH (hm b _ q fun z=>z)];exact q,fun b u xs q=>by rw [aH (hm b _ q fun z=>z)];exact q,fun b ps q=>⟨#[],by rw [aH (hm b _ q fun z=>z),q];simp⟩⟩
 by_cases hbe:b=e
 ·subst hbe;exact heo
 ·exact ⟨u,k b u hbe q⟩
end
def trk (h:Heap)(H:Hp):List Addr:=(List.range h.objs.size).filter fun a=>(H a).isSome
def tU (h:Heap)(H:Hp):Heap:=PySem.W.hideAll h (trk h H)
theorem Bx (h:Heap)(H:Hp):(tU h H).objs.size=h.objs.size:=PySem.W.hideAll_size _ _
theorem Fe {h:Heap}{H:Hp}{b:Addr}{o:Obj}(e:h.get? b=some o)(n:H b=none):(tU h H).get? b=some o :=
 PySem.W.hideAll_get _ e fun hm=>by
  have q:(H b).isSome=true:=(List.mem_filter.mp hm).2;rw [n] at q;simp at q
theorem Ig {h:Heap}{H:Hp}{b:Addr}{o:Obj}(e:(tU h H).get? b=some o):h.get? b=some o∧H b=none:=by
 have e':h.get? b=some o:=PySem.W.of_hideAll (trk h H) e;refine ⟨e',?_⟩
 cases q:H b with
 | none=>rfl
 | some x =>
  have hm:b∈trk h H:=List.mem_filter.mpr ⟨List.mem_range.mpr (Heap.lt_size e'),by simp [q]⟩;have z:(tU h H).get? b=none:=PySem.W.hideAll_none (trk h H) hm;rw [z] at e;cases e
def Iu (g h:Heap)(L:Addr):List (Addr×Obj):=(List.range h.objs.size).filterMap fun a=>if a=L∨(g.get? a).isSome=true then none else (h.get? a).map fun o=>(a,o)
def rest (g h:Heap)(L d:Addr):List (Addr×Obj):=(Iu g h L).filter fun p=>decide (p.1≠d)
set_option genInjectivity false in
structure Mod (K:PySem.W.Frag)(mg:Str->Option Value)(base:Heap):Prop where
 kin:K.In base
 glob:base.Ns mainGlobals mg
 blt:∃ mb,base.Ns builtinsNs mb∧∀ x:Str,x ≠ "__name__" -> mb x=bootBuiltins x
 nolimit:base.NoLimit
set_option genInjectivity false in
structure Cx where
 prog:Program
 w:World
 K:PySem.W.Frag
 mg:Str->Option Value
 base:Heap
 A:Around
 N:List Str
 s₀:Shared
 H₀:Hp
 env:Env
 outer:List Env
 stack:List Env
 ex:List Addr
 fn:Str->Bool
 calm:Bool
 pn:List (Addr×Obj)
 xe:Value->Shared->Prop
def frs (l:List Env):List Addr:=l.filterMap (·.frame)
abbrev Cx.fs (X:Cx):List Addr:=frs X.outer
def Vis (sc:Scope)(x:Str):Prop:=sc.names.lookup x=some .local∨sc.names.lookup x=some .cell∨sc.names.lookup x=some .free
def Loc (sc:Scope)(x:Str):Prop:=sc.names.lookup x=some .local∨sc.names.lookup x=some .cell
def Qw (env:Env)(h:Heap)(m:Str->Option Value)(x:Str)(u:Value):Prop :=
 (env.kindOf x=some .local∧m x=some u)∨((env.kindOf x=some .cell∨env.kindOf x=some .free)∧∃ c,env.cells.lookup x=some c∧h.IsCell c (some u))
set_option genInjectivity false in
structure Cx.Ok (X:Cx):Prop where
 mod:Mod X.K X.mg X.base
 kind:X.env.scope.kind = .function
 glob:X.env.globals=mainGlobals
 blt:X.env.builtins=builtinsNs
 above:X.s₀.heap.objs.size<=X.env.locals
 inj:∀ x y c,X.env.cells.lookup x=some c->X.env.cells.lookup y=some c->x=y
 has:∀ x,(X.env.kindOf x=some .cell∨X.env.kindOf x=some .free)->∃ c,X.env.cells.lookup x=some c
 cab:∀ x c,X.fn x=true->X.env.cells.lookup x=some c->X.s₀.heap.objs.size<=c
 hd:X.calm=true->X.A.handled=none
 frames:X.A.frames=some X.stack
 stk:X.stack=X.outer∨(X.stack=X.env::X.outer∧X.env.frame=some X.env.locals)
 exf:∀ b∈X.ex,b≠X.env.locals∧∀ x c,X.env.cells.lookup x=some c->c≠b
 bs:∀ b o,X.base.get? b=some o->X.s₀.heap.get? b=some o∧X.H₀ b=none
 bsz:X.base.objs.size<=X.s₀.heap.objs.size
 noex:∀ b o,X.base.get? b=some o->b∉X.ex
 exfs:∀ b∈X.ex,b∉X.fs
 funs:X.s₀.heap.FunFrames X.base X.outer
 frf:∀ b∈X.fs,X.H₀ b=none
set_option genInjectivity false in
structure Inv (X:Cx)(pins:List (Addr×Obj))(σ:List (Option V))(H:Hp)(s:Shared):Prop where
 ok:X.Ok
 os:s.os=X.s₀.os
 bare:AllBare s.gens
 base:Un X.fs X.ex X.H₀ H X.s₀.heap s.heap
 loc:∃ m,s.heap.Ns X.env.locals m∧∀ (i:Nat) (x:Str) (v:V),X.N[i]?=some x->σ[i]?=some (some v)->Vis X.env.scope x->∃ u,bE v u∧Qw X.env s.heap m x u
 cell:∀ x c,X.env.cells.lookup x=some c->∃ v,s.heap.IsCell c v
 free:H X.env.locals=none
 freeC:∀ x c,X.env.cells.lookup x=some c->H c=none
 pin:∀ p∈X.pn++pins,s.heap.get? p.1=some p.2∧H p.1=none∧p.1≠X.env.locals∧p.1∉X.fs∧∀ v,p.2.data≠.cell v
 hok:HOk X.prog X.w H s.heap
 len:σ.length=X.N.length
section
variable {X:Cx}{pins:List (Addr×Obj)}{σ:List (Option V)}{H H':Hp}{s:Shared}{h':Heap}
theorem Cx.Ok.nofr (ok:X.Ok){b:Addr}{o:Obj}(e:X.base.get? b=some o):b∉X.fs:=fun hb=>by
 have:=(ok.funs.mem hb).1
 rw [e] at this;cases this
theorem Inv.bs (I:Inv X pins σ H s):∀ b o,X.base.get? b=some o->s.heap.get? b=some o∧H b=none:=fun b o e =>
 ⟨I.base.keep b o (I.ok.bs b o e).1 (I.ok.bs b o e).2 (I.ok.nofr e) (I.ok.noex b o e),I.base.free b o (I.ok.bs b o e).1 (I.ok.bs b o e).2 (I.ok.noex b o e)⟩
theorem Inv.bk (I:Inv X pins σ H s):∀ b o,X.base.get? b=some o->s.heap.get? b=some o:=fun b o e=>(I.bs b o e).1
theorem Inv.mod (I:Inv X pins σ H s):Mod X.K X.mg X.base:=I.ok.mod
theorem Inv.kIn (I:Inv X pins σ H s):X.K.In s.heap:=I.ok.mod.kin.keeps I.bk
theorem Inv.lt (I:Inv X pins σ H s):X.env.locals<s.heap.objs.size:=let ⟨_,hn,_⟩:=I.loc;hn.lt
theorem Inv.sz (I:Inv X pins σ H s):X.s₀.heap.objs.size<=s.heap.objs.size:=Nat.le_trans I.ok.above (Nat.le_of_lt I.lt)
theorem Inv.nofs (I:Inv X pins σ H s){a:Addr}(h:s.heap.objs.size<=a):a∉X.fs:=fun hb=>by
 obtain ⟨_,o,ho,_⟩:=I.ok.funs.mem hb;exact absurd (Nat.lt_of_lt_of_le (Heap.lt_size ho) (Nat.le_trans I.sz h)) (Nat.lt_irrefl _)
theorem Inv.cne (I:Inv X pins σ H s):∀ x c,X.env.cells.lookup x=some c->c≠X.env.locals:=fun x c e z=>by
 obtain ⟨v,o,ho,hd⟩:=I.cell x c e;obtain ⟨m,⟨o',es,ep,ho',hd',_⟩,_⟩:=I.loc;rw [z,ho'] at ho;cases ho;rw [hd'] at hd;cases hd
theorem Inv.funs (I:Inv X pins σ H s):s.heap.FunFrames X.base X.outer:=by
 have all:∀ (l:List Env),(∀ b∈frs l,b∈X.fs)->X.s₀.heap.FunFrames X.base l->s.heap.FunFrames X.base l:=by
  intro l
  induction l with
  | nil=>intro _ _;trivial
  | cons env r ih =>
   intro hs hl;obtain ⟨hk,⟨L,o,hf,hn,ho,hd⟩,hr⟩:=hl;have hL:L∈X.fs:=hs L (by unfold frs;rw [List.filterMap_cons,hf];exact List.mem_cons_self);obtain ⟨sl,e⟩:=I.base.slot L o ho (I.ok.frf L hL) hL fun z=>I.ok.exfs L z hL
   exact ⟨hk,⟨L,_,hf,hn,e,hd⟩,ih (fun b hb=>hs b (by unfold frs;rw [List.filterMap_cons,hf];exact List.mem_cons_of_mem _ hb)) hr⟩
 exact all X.outer (fun _ hb=>hb) I.ok.funs
theorem Inv.stack (I:Inv X pins σ H s):s.heap.FunFrames X.base X.stack:=by
 rcases I.ok.stk with e | ⟨e,hf⟩
 ·rw [e];exact I.funs
 ·rw [e]
  obtain ⟨m,hn,_⟩:=I.loc;refine .cons (by rw [I.ok.kind];decide) hf hn ?_ I.funs;exact Heap.get?_none_of_le (Nat.le_trans I.ok.bsz I.ok.above)
theorem Inv.stkSub (I:Inv X pins σ H s):∀ b∈frs X.stack,b∈X.env.locals::X.fs:=fun b hb=>by
 rcases I.ok.stk with e | ⟨e,hf⟩
 ·rw [e] at hb;exact List.mem_cons_of_mem _ hb
 ·rw [e] at hb
  unfold frs at hb;rw [List.filterMap_cons,hf] at hb;exact hb
theorem Inv.stkFree (I:Inv X pins σ H s):∀ b∈frs X.stack,H b=none:=fun b hb=>by
 rcases List.mem_cons.mp (I.stkSub b hb) with e | hb
 ·rw [e];exact I.free
 ·obtain ⟨_,o,ho,_⟩:=I.ok.funs.mem hb
  exact I.base.free b o ho (I.ok.frf b hb) fun z=>I.ok.exfs b z hb
theorem Inv.step {g':Array GenState}{t':Nat}{d':Drawn}{ch:List Addr}(I:Inv X pins σ H s)
  (hch:∀ b∈ch,(b∈X.ex∨X.s₀.heap.objs.size<=b)∧b≠X.env.locals∧(∀ x c,X.env.cells.lookup x=some c->c≠b)∧∀ p∈X.pn++pins,p.1≠b)
  (keep:∀ b o,b≠X.env.locals->b∉X.fs->b∉ch->s.heap.get? b=some o->H b=none->h'.get? b=some o)
  (slot:∀ b o,b≠X.env.locals->b∈X.fs->b∉ch->s.heap.get? b=some o->H b=none->∃ sl,h'.get? b=some { o with slots:=sl }) (free:∀ b o,b∉ch->s.heap.get? b=some o->H b=none->H' b=none)
  (there:∀ b o,b∉ch->s.heap.get? b=some o->∃ o',h'.get? b=some o')
  (tups:∀ b xs,H b=some (.tup xs)->H' b=some (.tup xs)) (frzs:∀ b o u,H b=some (.frz o u)->H' b=some (.frz o u)) (tbls:∀ b ps,H b=some (.tbl ps)->∃ more,H' b=some (.tbl (ps++more)))
  (ns:∀ m,s.heap.Ns X.env.locals m->h'.Ns X.env.locals m) (hok:HOk X.prog X.w H' h') (hg:AllBare g') :
  Inv X pins σ H' { s with heap:=h',gens:=g',drawn:=d',toks:=t' }:=by
 have neL:∀ b o,X.s₀.heap.get? b=some o->b≠X.env.locals:=fun b o e=>Nat.ne_of_lt (Nat.lt_of_lt_of_le (Heap.lt_size e) I.ok.above)
 have neC:∀ b o,X.s₀.heap.get? b=some o->b∉X.ex->b∉ch:=fun b o e hx hb=>by
  rcases (hch b hb).1 with z | z
  ·exact hx z
  ·exact absurd (Nat.lt_of_lt_of_le (Heap.lt_size e) z) (Nat.lt_irrefl _)
 have cellK:∀ x c,X.env.cells.lookup x=some c->∀ v,s.heap.IsCell c v->h'.IsCell c v:=fun x c e v ⟨o,ho,hd⟩=>by
  have nch:c∉ch:=fun z=>(hch c z).2.2.1 x c e rfl
  by_cases hc:c∈X.fs
  ·obtain ⟨sl,q⟩:=slot c o (I.cne x c e) hc nch ho (I.freeC x c e)
   exact ⟨_,q,hd⟩
  ·exact ⟨o,keep c o (I.cne x c e) hc nch ho (I.freeC x c e),hd⟩
 refine ⟨I.ok,I.os,hg,⟨fun b o e n hb hx=>?_,fun b o e n hb hx=>?_,fun b o e n hx=>?_,fun b o e hx=>?_,fun b xs e=>tups b xs (I.base.tups b xs e),fun b o xs e=>frzs b o xs (I.base.frzs b o xs e),fun b ps e=>?_⟩,?_,fun x c e=>?_,?_,fun x c e=>?_,fun p hp=>?_,hok,I.len⟩
 ·exact keep b o (neL b o e) hb (neC b o e hx) (I.base.keep b o e n hb hx) (I.base.free b o e n hx)
 ·obtain ⟨sl,e1⟩:=I.base.slot b o e n hb hx
  obtain ⟨sl',e2⟩:=slot b _ (neL b o e) hb (neC b o e hx) e1 (I.base.free b o e n hx);exact ⟨sl',e2⟩
 ·obtain ⟨o',e1⟩:=I.base.there b o e hx
  exact free b o' (neC b o e hx) e1 (I.base.free b o e n hx)
 ·obtain ⟨o',e1⟩:=I.base.there b o e hx
  exact there b o' (neC b o e hx) e1
 ·obtain ⟨m1,e1⟩:=I.base.tbls b ps e
  obtain ⟨m2,e2⟩:=tbls b _ e1;exact ⟨m1++m2,by rw [e2,Array.append_assoc]⟩
 ·obtain ⟨m,hn,hl⟩:=I.loc
  refine ⟨m,ns m hn,fun i x v e1 e2 e3=>?_⟩;obtain ⟨u,r,l⟩:=hl i x v e1 e2 e3;refine ⟨u,r,?_⟩;rcases l with l | ⟨k,c,e,z⟩
  ·exact .inl l
  ·exact .inr ⟨k,c,e,cellK x c e _ z⟩
 ·obtain ⟨v,z⟩:=I.cell x c e
  exact ⟨v,cellK x c e v z⟩
 ·obtain ⟨m,⟨o,_,_,ho,_⟩,_⟩:=I.loc
  exact free _ o (fun z=>(hch _ z).2.1 rfl) ho I.free
 ·obtain ⟨v,o,ho,hd⟩:=I.cell x c e
  exact free c o (fun z=>(hch c z).2.2.1 x c e rfl) ho (I.freeC x c e)
 ·obtain ⟨e,n,ne,nf,d⟩:=I.pin p hp
  have nch:p.1∉ch:=fun z=>(hch p.1 z).2.2.2 p hp rfl
  exact ⟨keep p.1 p.2 ne nf nch e n,free p.1 p.2 nch e n,ne,nf,d⟩
theorem Inv.un {t':Nat}(I:Inv X pins σ H s)(u:Un X.fs [] H H' s.heap h')(hok:HOk X.prog X.w H' h'):Inv X pins σ H' { s with heap:=h',toks:=t' }:=by
 obtain ⟨m,⟨o,es,ep,ho,r⟩,_⟩:=id I.loc;obtain ⟨sl,hL⟩:=u.any ho I.free (by simp);exact I.step (g':=s.gens) (d':=s.drawn) (ch:=[]) (fun _ z=>nomatch z) (fun b o _ hb _ e n=>u.keep b o e n hb (by simp)) (fun b o _ hb _ e n=>u.slot b o e n hb (by simp)) (fun b o _ e n=>u.free b o e n (by simp)) (fun b o _ e=>u.there b o e (by simp)) u.tups u.frzs u.tbls (fun m' hm=>by
  obtain ⟨o',es',ep',ho',r'⟩:=hm;rw [ho] at ho';cases ho';exact ⟨_,es',ep',hL,r'⟩) hok I.bare
theorem Inv.call {g':Array GenState}{t':Nat}{d':Drawn}{ch:List Addr}(I:Inv X pins σ H s)(u:Un (frs X.stack) ch H H' s.heap h')(hok:HOk X.prog X.w H' h')(hg:AllBare g')
  (hch:∀ b∈ch,(b∈X.ex∨X.s₀.heap.objs.size<=b)∧b≠X.env.locals∧(∀ x c,X.env.cells.lookup x=some c->c≠b)∧∀ p∈X.pn++pins,p.1≠b) :
  Inv X pins σ H' { s with heap:=h',gens:=g',drawn:=d',toks:=t' }:=by
 obtain ⟨m,⟨o,es,ep,ho,r⟩,_⟩:=id I.loc;obtain ⟨sl,hL⟩:=u.any ho I.free fun z=>(hch _ z).2.1 rfl
 exact I.step (ch:=ch) hch (fun b o hL hb hc e n=>u.keep b o e n (fun z=>(List.mem_cons.mp (I.stkSub b z)).elim hL hb) hc) (fun b o _ _ hc e n=>u.any e n hc) (fun b o hc e n=>u.free b o e n hc) (fun b o hc e=>u.there b o e hc) u.tups u.frzs u.tbls (fun m' hm=>by
  obtain ⟨o',es',ep',ho',r'⟩:=hm;rw [ho] at ho';cases ho';exact ⟨_,es',ep',hL,r'⟩) hok hg
theorem Inv.turned {t':Nat}{it:Addr}(I:Inv X pins σ H s)(k:∀ b o,b≠it->s.heap.get? b=some o->h'.get? b=some o)(hn:H it=none)(hL:it≠X.env.locals)
  (h1:it∈X.ex∨X.s₀.heap.objs.size<=it) (h2:∀ x c,X.env.cells.lookup x=some c->c≠it) (h3:∀ p∈X.pn++pins,p.1≠it):Inv X pins σ H { s with heap:=h',toks:=t' }:=by
 have nit:∀ b u,H b=some u->b≠it:=fun b u e z=>by rw [z,hn] at e;cases e
 refine I.step (g':=s.gens) (d':=s.drawn) (ch:=[it]) (fun b hb=>?_) (fun b o _ _ hc e _=>k b o (fun z=>hc (by simp [z])) e) (fun b o _ _ hc e _=>⟨o.slots,k b o (fun z=>hc (by simp [z])) e⟩) (fun _ _ _ _ n=>n)
  (fun b o hc e=>⟨o,k b o (fun z=>hc (by simp [z])) e⟩) (fun _ _ e=>e) (fun _ _ _ e=>e) (fun b ps e=>⟨#[],by rw [e];simp⟩) (fun m hm=>?_) (fun b u e=>?_) I.bare
 ·have e:b=it:=by simpa using hb
  subst e;exact ⟨h1,hL,h2,h3⟩
 ·obtain ⟨o,es,ep,ho,r⟩:=hm
  exact ⟨o,es,ep,k _ o (Ne.symm hL) ho,r⟩
 ·refine (I.hok b u e).stay (fun c v hc q=>k c v ?_ q) (fun _ q=>q) fun _ _ q=>q
  rcases hc with z | z
  ·rw [z];exact nit b u e
  ·exact nit c _ z
theorem Inv.tok (I:Inv X pins σ H s)(t:Nat):Inv X pins σ H { s with toks:=t }:=I.un (h':=s.heap) (t':=t) Un.refl I.hok
theorem Inv.kept {t':Nat}(I:Inv X pins σ H s)(k:∀ b u,s.heap.get? b=some u->h'.get? b=some u):Inv X pins σ H { s with heap:=h',toks:=t' }:=I.un (Un.kept k) (I.hok.kept k)
theorem Inv.laid {a:Addr}{o:HO}{t':Nat}(I:Inv X pins σ H s)(k:∀ b u,s.heap.get? b=some u->h'.get? b=some u)(hp:s.heap.objs.size<=a)(new:cG X.prog X.w (upd H a o) h' a o) :
 Inv X pins σ (upd H a o) { s with heap:=h',toks:=t' }:=I.un (Un.laid k hp (I.hok.fresh hp)) (I.hok.laid k hp new)
theorem Inv.write {x e:Addr}{o:HO}{t':Nat}(I:Inv X pins σ H s)(mu:Mut (H x))(he:e=x∨H e=some (.own x))(k:∀ b u,b≠e->s.heap.get? b=some u->h'.get? b=some u)(heo:∃ u,h'.get? e=some u)
 (new:cG X.prog X.w (upd H x o) h' x o):Inv X pins σ (upd H x o) { s with heap:=h',toks:=t' }:=I.un (Un.write mu he k heo) (I.hok.write mu he k heo new)
theorem Inv.pins_of {pins':List (Addr×Obj)}(I:Inv X pins σ H s)(h:∀ p∈pins',s.heap.get? p.1=some p.2∧H p.1=none∧p.1≠X.env.locals∧p.1∉X.fs∧∀ v,p.2.data≠.cell v):Inv X pins' σ H s :=
 ⟨I.ok,I.os,I.bare,I.base,I.loc,I.cell,I.free,I.freeC,fun p hp=>(List.mem_append.mp hp).elim (fun z=>I.pin p (List.mem_append_left _ z)) (h p),I.hok,I.len⟩
theorem vY {N:List Str}(hN:N.Nodup){i j:Nat}{x:Str}(a:N[i]?=some x)(b:N[j]?=some x):i=j:=by
 obtain ⟨h1,e1⟩:=List.getElem?_eq_some_iff.mp a;obtain ⟨h2,e2⟩:=List.getElem?_eq_some_iff.mp b;exact (List.getElem_inj hN).mp (e1.trans e2.symm)
theorem tN {M:Model}{A:Around}{E:Value->Shared->Prop}{i:Nat}{x:Str}{v:V}{u:Value}{Q:Unit->Shared->Prop}(I:Inv X pins σ H s)(hN:X.N.Nodup)(hi:X.N[i]?=some x)(hx:Loc X.env.scope x)(r:bE v u)
  (h:∀ s',Inv X pins (σ.set i (some v)) H s'->(∃ a,Heap.SameBut a s.heap s'.heap∧(a=X.env.locals∨X.env.cells.lookup x=some a))->Q () s') (hf:X.fn x=true∨X.env.scope.names.lookup x=some .local:=by first | exact .inl rfl | exact .inr rfl | assumption):wpAny M A (storeName X.env x u) Q E s:=by
 obtain ⟨m,hn,hl⟩:=id I.loc;have hcls:(X.env.scope.kind == .class||(X.env.scope.kind == .module&&X.env.locals != X.env.globals))=false:=by rw [I.ok.kind];rfl
 have hiσ:i<σ.length:=by rw [I.len];exact (List.getElem?_eq_some_iff.mp hi).1
 have cne:=I.cne;have tracked:∀ {a:Addr} {h':Heap},(∃ o,s.heap.get? a=some o∧H a=none)->Heap.SameBut a s.heap h'->HOk X.prog X.w H h':=fun {a h'} ha hs b ob e=>by
  obtain ⟨_,_,hfree⟩:=ha;refine (I.hok b ob e).stay (fun c w' hc q=>(hs.2 c ?_).trans q) (fun _ q=>q) fun _ _ q=>q
  rintro rfl;rcases hc with rfl | hc
  ·rw [hfree] at e;cases e
  ·rw [hfree] at hc;cases hc
 rcases hx with hk | hk
 ·refine wpAny_storeName_local hk hn (fun h' hn' hs=>?_) hcls
  obtain ⟨oL,_,_,hoL,_⟩:=id hn;refine h _ ⟨I.ok,I.os,I.bare,⟨fun b o e n hb hx=>?_,fun b o e n hb hx=>?_,I.base.free,fun b o e hx=>?_,I.base.tups,I.base.frzs,I.base.tbls⟩,⟨_,hn',fun j y v' e1 e2 e3=>?_⟩,fun y c e=>?_,I.free,I.freeC,fun p hp=>?_,tracked ⟨oL,hoL,I.free⟩ hs,by simpa using I.len⟩ ⟨_,hs,.inl rfl⟩
  ·exact (hs.2 b (Nat.ne_of_lt (Nat.lt_of_lt_of_le (Heap.lt_size e) I.ok.above))).trans (I.base.keep b o e n hb hx)
  ·obtain ⟨sl,e1⟩:=I.base.slot b o e n hb hx
   exact ⟨sl,(hs.2 b (Nat.ne_of_lt (Nat.lt_of_lt_of_le (Heap.lt_size e) I.ok.above))).trans e1⟩
  ·obtain ⟨o',e1⟩:=I.base.there b o e hx
   exact ⟨o',(hs.2 b (Nat.ne_of_lt (Nat.lt_of_lt_of_le (Heap.lt_size e) I.ok.above))).trans e1⟩
  ·by_cases hj:j=i
   ·subst hj
    rw [hi] at e1;cases e1;rw [List.getElem?_set_self hiσ] at e2;cases e2;exact ⟨u,r,.inl ⟨hk,by simp⟩⟩
   ·rw [List.getElem?_set_ne (Ne.symm hj)] at e2
    obtain ⟨u',r',q⟩:=hl j y v' e1 e2 e3;refine ⟨u',r',?_⟩;rcases q with ⟨k,e⟩ | ⟨k,c,e,z⟩
    ·refine .inl ⟨k,?_⟩
     have:y≠x:=fun e=>hj (vY hN e1 (e▸hi))
     simp [this,e]
    ·exact .inr ⟨k,c,e,z.sameBut hs (cne y c e)⟩
  ·obtain ⟨w',z⟩:=I.cell y c e
   exact ⟨w',z.sameBut hs (cne y c e)⟩
  ·obtain ⟨e,n,ne,nf,d⟩:=I.pin p hp
   exact ⟨(hs.2 p.1 ne).trans e,n,ne,nf,d⟩
 ·have hfn:X.fn x=true:=by
   rcases hf with z | z
   ·exact z
   ·rw [z] at hk;cases hk
  obtain ⟨c,hc⟩:=I.ok.has x (.inl hk);obtain ⟨w',z⟩:=I.cell x c hc;refine wpAny_storeName_cell I.ok.kind hk hc z (fun h' hc' hs=>?_);obtain ⟨oc,hoc,hocd⟩:=id z;refine h { s with heap:=h' } ⟨I.ok,I.os,I.bare,⟨fun b o e n hb hx=>?_,fun b o e n hb hx=>?_,I.base.free,fun b o e hx=>?_,I.base.tups,I.base.frzs,I.base.tbls⟩,⟨m,hn.sameBut hs (Ne.symm (cne x c hc)),fun j y v' e1 e2 e3=>?_⟩,fun y c' e=>?_,I.free,I.freeC,fun p hp=>?_,tracked ⟨oc,hoc,I.freeC x c hc⟩ hs,by simpa using I.len⟩ ⟨c,hs,.inr hc⟩
  ·exact (hs.2 b (Nat.ne_of_lt (Nat.lt_of_lt_of_le (Heap.lt_size e) (I.ok.cab x c hfn hc)))).trans (I.base.keep b o e n hb hx)
  ·obtain ⟨sl,e1⟩:=I.base.slot b o e n hb hx
   exact ⟨sl,(hs.2 b (Nat.ne_of_lt (Nat.lt_of_lt_of_le (Heap.lt_size e) (I.ok.cab x c hfn hc)))).trans e1⟩
  ·obtain ⟨o',e1⟩:=I.base.there b o e hx
   exact ⟨o',(hs.2 b (Nat.ne_of_lt (Nat.lt_of_lt_of_le (Heap.lt_size e) (I.ok.cab x c hfn hc)))).trans e1⟩
  ·by_cases hj:j=i
   ·subst hj
    rw [hi] at e1;cases e1;rw [List.getElem?_set_self hiσ] at e2;cases e2;exact ⟨u,r,.inr ⟨.inl hk,c,hc,hc'⟩⟩
   ·rw [List.getElem?_set_ne (Ne.symm hj)] at e2
    obtain ⟨u',r',q⟩:=hl j y v' e1 e2 e3;refine ⟨u',r',?_⟩;rcases q with q | ⟨k,c',e,z'⟩
    ·exact .inl q
    ·refine .inr ⟨k,c',e,z'.sameBut hs ?_⟩
     rintro rfl;exact hj (vY hN e1 (I.ok.inj _ _ _ e hc▸hi))
  ·by_cases hcc:c'=c
   ·subst hcc;exact ⟨_,hc'⟩
   ·obtain ⟨w2,z2⟩:=I.cell y c' e
    exact ⟨w2,z2.sameBut hs hcc⟩
  ·obtain ⟨e,n,ne,nf,d⟩:=I.pin p hp
   refine ⟨(hs.2 p.1 ?_).trans e,n,ne,nf,d⟩;intro q;rw [q,hoc] at e;have q':oc=p.2:=Option.some.inj e;exact d w' (by rw [<- q'];exact hocd)
theorem qU {M:Model}{A:Around}{E:Value->Shared->Prop}{i:Nat}{x:Str}{v:V}{u:Value}{Q:Unit->Shared->Prop}(I:Inv X pins σ H s)(hN:X.N.Nodup)(hi:X.N[i]?=some x)(hx:Loc X.env.scope x)(r:bE v u)
  (h:∀ s',Inv X pins (σ.set i (some v)) H s'->Q () s') (hf:X.fn x=true∨X.env.scope.names.lookup x=some .local:=by first | exact .inl rfl | exact .inr rfl | assumption):wpAny M A (storeName X.env x u) Q E s :=
 tN I hN hi hx r (fun s' I' _=>h s' I') hf
theorem Inv.call' {s':Shared}{ch:List Addr}(I:Inv X pins σ H s)(ho:s'.os=s.os)(u:Un (frs X.stack) ch H H' s.heap s'.heap)(hok:HOk X.prog X.w H' s'.heap)(hg:AllBare s'.gens)
  (hch:∀ b∈ch,(b∈X.ex∨X.s₀.heap.objs.size<=b)∧b≠X.env.locals∧(∀ x c,X.env.cells.lookup x=some c->c≠b)∧∀ p∈X.pn++pins,p.1≠b):Inv X pins σ H' s':=by
 obtain ⟨h',g',d',t',o'⟩:=s';have e:o'=s.os:=ho;subst e;exact I.call (g':=g') (t':=t') (d':=d') u hok hg hch
end
abbrev XK:=Value->Option Addr->Hp->Prop
abbrev St:=List (Option V)
abbrev VK:=V->Hp->Prop
abbrev TE:=St->Hp->VK->Prop
abbrev TT:=St->Hp->(Bool->Hp->Prop)->Prop
abbrev TA:=St->Hp->(List V->Hp->Prop)->Prop
set_option genInjectivity false in
structure kF where
 nx:St->Hp->Prop
 rt:VK
 bk:St->Hp->Prop:=fun _ _=>False
 ct:St->Hp->Prop:=fun _ _=>False
abbrev TS:=kF->St->Hp->Prop
def EP (X:Cx)(pins:List (Addr×Obj))(σ:St)(Q:VK)(u:Value)(s':Shared):Prop:=∃ v H',Inv X pins σ H' s'∧bE v u∧Q v H'
def TP (X:Cx)(pins:List (Addr×Obj))(σ:St)(Q:Bool->Hp->Prop)(b:Bool)(s':Shared):Prop:=∃ H',Inv X pins σ H' s'∧Q b H'
def AP (X:Cx)(pins:List (Addr×Obj))(σ:St)(Q:List V->Hp->Prop)(us:List Value)(s':Shared):Prop:=∃ vs H',Inv X pins σ H' s'∧bT vs us∧Q vs H'
def SP (X:Cx)(pins:List (Addr×Obj))(D:kF)(f:Flow)(s':Shared):Prop :=
 match f with
 | .next=>∃ σ' H',Inv X pins σ' H' s'∧D.nx σ' H'
 | .brk=>∃ σ' H',Inv X pins σ' H' s'∧D.bk σ' H'
 | .cont=>∃ σ' H',Inv X pins σ' H' s'∧D.ct σ' H'
 | .ret u=>∃ v σ' H',Inv X pins σ' H' s'∧bE v u∧D.rt v H'
def PE (X:Cx)(e:Expr)(t:TE):Prop :=
 ∀ (pins:List (Addr×Obj)) (s:Shared) (σ:St) (H:Hp) (Q:VK),Inv X pins σ H s->t σ H Q->wpAny (model X.prog X.w) X.A (eval e X.env) (EP X pins σ Q) X.xe s
def PT (X:Cx)(e:Expr)(t:TT):Prop :=
 ∀ (pins:List (Addr×Obj)) (s:Shared) (σ:St) (H:Hp) (Q:Bool->Hp->Prop),Inv X pins σ H s->t σ H Q->wpAny (model X.prog X.w) X.A (isTrue e X.env (eval e X.env)) (TP X pins σ Q) X.xe s
def PW (X:Cx)(e:Expr)(t:TT):Prop :=
 ∀ (whole:Sem Value) (pins:List (Addr×Obj)) (s:Shared) (σ:St) (H:Hp) (Q:Bool->Hp->Prop),Inv X pins σ H s->t σ H Q->wpAny (model X.prog X.w) X.A (isTrue e X.env whole) (TP X pins σ Q) X.xe s
theorem PW.pt {X:Cx}{e:Expr}{t:TT}(h:PW X e t):PT X e t:=h _
def PA (X:Cx)(es:List Expr)(t:TA):Prop :=
 ∀ (pos:Pos) (pins:List (Addr×Obj)) (s:Shared) (σ:St) (H:Hp) (Q:List V->Hp->Prop),Inv X pins σ H s->t σ H Q->wpAny (model X.prog X.w) X.A (spliced (backTo pos (starEach es X.env))) (AP X pins σ Q) X.xe s
def PS (X:Cx)(st:Stmt)(t:TS):Prop :=
 ∀ (pins:List (Addr×Obj)) (s:Shared) (σ:St) (H:Hp) (D:kF),Inv X pins σ H s->t D σ H->wpAny (model X.prog X.w) X.A (exec st X.env) (SP X pins D) X.xe s
def PSs (X:Cx)(st:List Stmt)(t:TS):Prop :=
 ∀ (pins:List (Addr×Obj)) (s:Shared) (σ:St) (H:Hp) (D:kF),Inv X pins σ H s->t D σ H->wpAny (model X.prog X.w) X.A (execs st X.env) (SP X pins D) X.xe s
theorem thn {α:Type}{t:Sem α}{Q Q':α->Shared->Prop}{M:Model}{A:Around}{E:Value->Shared->Prop}{s:Shared}(h:wpAny M A t Q E s)(hQ:∀ a s,Q a s->Q' a s):wpAny M A t Q' E s:=wpAny_mono h hQ fun _ _ x=>x
section
variable {X:Cx}
def Nl (i:Nat):TE:=fun σ H Q=>∃ v,σ[i]?=some (some v)∧Q v H
def tC (v:V):TE:=fun _ H Q=>Q v H
theorem Ml {i:Nat}{x:Str}{pos:Pos}(hN:X.N[i]?=some x)(hv:Vis X.env.scope x)(hd:(x==("__debug__" : Str))=false:=by decide)(hcd:(x==("__classdict__" : Str))=false:=by decide):PE X (.Name x pos) (Nl i):=by
 intro pins s σ H Q I h;obtain ⟨v,e,h⟩:=h;obtain ⟨m,hn,hl⟩:=I.loc;obtain ⟨u,r,l⟩:=hl i x v hN e hv;have fin:EP X pins σ Q u s:=⟨v,H,I,r,h⟩;rcases l with ⟨hk,hm⟩ | ⟨hk,c,hc,hcell⟩
 ·exact wpAny_Name (wpAny_loadName_local I.ok.kind hk hn hm fin) hd
 ·rcases hk with hk | hk
  ·exact wpAny_Name (wpAny_loadName_cell I.ok.kind hk hc hcell fin) hd
  ·exact wpAny_Name (wpAny_loadName_free I.ok.kind hk hc hcell fin hcd) hd
theorem aG {i j pos}:PE X (.Constant (.int i) j pos) (tC (.int i)):=fun _ _ _ H _ I h=>wpAny_Constant_int ⟨.int i,H,I.tok _,⟨_,rfl⟩,h⟩
theorem kL {b j pos}:PE X (.Constant (.bool b) j pos) (tC (.bl b)):=fun _ _ _ H _ I h=>Constant_bool ⟨.bl b,H,I,rfl,h⟩
theorem Gu {j pos}:PE X (.Constant .none j pos) (tC .non):=fun _ _ _ H _ I h=>Constant_none ⟨.non,H,I,rfl,h⟩
theorem Nf {x j pos}:PE X (.Constant (.str x) j pos) (tC (.str x)):=fun _ _ _ H _ I h=>Calls.Constant_str ⟨.str x,H,I.tok _,⟨_,rfl⟩,h⟩
def Gl (X:Cx)(x:Str):Prop:=X.env.kindOf x=some .globalImplicit
theorem oT {E:Value->Shared->Prop}{pins:List (Addr×Obj)}{s:Shared}{σ:St}{H:Hp}{x:Str}{u:Value}{pos:Pos}{Q:Value->Shared->Prop}(I:Inv X pins σ H s)(hg:Gl X x)(hm:X.mg x=some u)(h:Q u s)
  (hd:(x==("__debug__" : Str))=false:=by decide):wpAny (model X.prog X.w) X.A (eval (.Name x pos) X.env) Q E s :=
 Calls.Name_function_global I.ok.kind hg (Calls.loadGlobal_global (by rw [I.ok.glob];exact I.mod.glob.keeps I.bk) hm h) hd
theorem mS {E:Value->Shared->Prop}{pins:List (Addr×Obj)}{s:Shared}{σ:St}{H:Hp}{x:Str}{u:Value}{pos:Pos}{Q:Value->Shared->Prop}(I:Inv X pins σ H s)(hg:Gl X x)(hm:X.mg x=none)(hv:bootBuiltins x=some u)(h:Q u s)
  (hn:x ≠ "__name__" := by decide) (hd:(x==("__debug__" : Str))=false:=by decide):wpAny (model X.prog X.w) X.A (eval (.Name x pos) X.env) Q E s:=by
 obtain ⟨mb,h1,h2⟩:=I.mod.blt;exact Calls.Name_function_global I.ok.kind hg (Calls.loadGlobal_builtin (by rw [I.ok.glob];exact I.mod.glob.keeps I.bk) hm (by rw [I.ok.blt];exact h1.keeps I.bk) ((h2 x hn).trans hv) h) hd
theorem fS {x:Str}{v:V}{u:Value}{pos:Pos}(hg:Gl X x)(hm:X.mg x=some u)(r:bE v u)(hd:(x==("__debug__" : Str))=false:=by decide):PE X (.Name x pos) (tC v) :=
 fun _ _ _ H _ I h=>oT I hg hm ⟨v,H,I,r,h⟩ hd
theorem vR {x:Str}{v:V}{u:Value}{pos:Pos}(hg:Gl X x)(hm:X.mg x=none)(hv:bootBuiltins x=some u)(r:bE v u)(hn:x ≠ "__name__" := by decide)(hd:(x==("__debug__" : Str))=false:=by decide):PE X (.Name x pos) (tC v) :=
 fun _ _ _ H _ I h=>mS I hg hm hv ⟨v,H,I,r,h⟩ hn hd
variable {a b:Expr}{ta tb:TE}{pos:Pos}
def PC (X:Cx)(op:CmpOp)(a b:Expr)(t:TE):Prop :=
 ∀ (pins:List (Addr×Obj)) (s:Shared) (σ:St) (H:Hp) (Q:VK),Inv X pins σ H s->t σ H Q ->
  wpAny (model X.prog X.w) X.A (eval a X.env) (fun v s₁=>wpAny (model X.prog X.w) X.A (eval b X.env) (fun u s₂=>wpAny (model X.prog X.w) X.A (compareOp op v u) (EP X pins σ Q) X.xe s₂) X.xe s₁) X.xe s
theorem Fy (b:Expr){op:CmpOp}(h:op≠.In)(h2:op≠.NotIn):behindInMarks op b=false:=by
 have e1:(op==CmpOp.In)=false:=by cases op <;> first | rfl | exact absurd rfl h
 have e2:(op==CmpOp.NotIn)=false:=by cases op <;> first | rfl | exact absurd rfl h2
 cases b <;> simp [behindInMarks,e1,e2]
def Qb (ta:TE):TE:=fun σ H Q=>ta σ H fun x H1=>Q (.bl (decide (x = .non))) H1
def Oh (ta:TE):TE:=fun σ H Q=>ta σ H fun x H1=>Q (.bl (!decide (x = .non))) H1
theorem bE.none_iff {x:V}{v:Value}(r:bE x v):(v==Value.none)=decide (x = .non):=by
 cases x with
 | non=>cases r;rfl
 | bl _=>cases r;rfl
 | int _=>obtain ⟨t,rfl⟩:=r;rfl
 | str _=>obtain ⟨t,rfl⟩:=r;rfl
 | byt _=>obtain ⟨t,rfl⟩:=r;rfl
 | flt _=>obtain ⟨t,rfl⟩:=r;rfl
 | ref _=>cases r;rfl
 | ty _=>cases r;rfl
theorem Mz {j pos'}(ha:PE X a ta):PC X .Is a (.Constant .none j pos') (Qb ta):=by
 intro pins s σ H Q I h;refine thn (ha pins s σ H _ I h) fun v s1 ⟨x,H1,I1,r1,q1⟩=>?_
 exact Constant_none (is_none_gen ⟨.bl _,H1,I1,by rw [r1.none_iff];rfl,q1⟩)
theorem Iy {j pos'}(ha:PE X a ta):PC X .IsNot a (.Constant .none j pos') (Oh ta):=by
 intro pins s σ H Q I h;refine thn (ha pins s σ H _ I h) fun v s1 ⟨x,H1,I1,r1,q1⟩=>?_
 exact Constant_none (isnot_none_gen ⟨.bl _,H1,I1,by rw [r1.none_iff];rfl,q1⟩)
def tB (t:TE):TT:=fun σ H Q=>t σ H fun x H1=>∃ c,x = .bl c∧Q c H1
theorem qB {op:CmpOp}{t:TE}(h:PC X op a b t)(h1:behindInMarks op b=false:=by first | exact Fy _ (by decide) (by decide) | rfl):PT X (.Compare a [op] [b] pos) (tB t):=by
 intro pins s σ H Q I hw;refine wpAny_isTrue_Compare1 (thn (h pins s σ H _ I hw) fun v s1 h1=>thn h1 fun u s2 h2=>thn h2 fun c s3 ⟨x,H1,I1,r1,q1⟩=>?_) h1;obtain ⟨d,rfl,q⟩:=q1;cases r1;exact wpAny_truthy_bool ⟨H1,I1,q⟩
theorem rB {e:Expr}{t:TE}(h:PE X e t)(he:∀ whole,isTrue e X.env whole=(do let v <- whole;standAt e.pos;holding [v] (truthy v)):=by intro _;rfl):PT X e (tB t):=by
 intro pins s σ H Q I hw;refine isTrue_plain (thn (h pins s σ H _ I hw) fun v s1 ⟨x,H1,I1,r1,q1⟩=>?_) (he _);obtain ⟨d,rfl,q⟩:=q1;cases r1;exact wpAny_truthy_bool ⟨H1,I1,q⟩
variable {tA tB':TT}{rest:List Expr}
def Qa (t u:TT):TT:=fun σ H Q=>t σ H fun c H1=>if c=true then u σ H1 Q else Q false H1
def tOr (t u:TT):TT:=fun σ H Q=>t σ H fun c H1=>if c=true then Q true H1 else u σ H1 Q
def Qo (t:TT):TT:=fun σ H Q=>t σ H fun c H1=>Q (!c) H1
theorem lL (ha:PT X a tA):PW X (.BoolOp .And [a] pos) tA:=by
 intro wh pins s σ H Q I h;refine isTrue_and (thn (ha pins s σ H Q I h) fun c s1 e=>?_)
 cases c with
 | true=>exact isTrue_and_nil e
 | false=>exact e
theorem mZ (ha:PT X a tA):PW X (.BoolOp .Or [a] pos) tA:=by
 intro wh pins s σ H Q I h;refine isTrue_or (thn (ha pins s σ H Q I h) fun c s1 e=>?_)
 cases c with
 | false=>exact isTrue_or_nil e
 | true=>exact e
theorem qE (ha:PT X a tA)(hb:PW X (.BoolOp .And (b::rest) pos) tB'):PW X (.BoolOp .And (a::b::rest) pos) (Qa tA tB'):=by
 intro wh pins s σ H Q I h;refine isTrue_and (thn (ha pins s σ H _ I h) fun c s1 ⟨H1,I1,q1⟩=>?_)
 cases c with
 | true=>exact hb wh pins s1 σ H1 Q I1 q1
 | false=>exact ⟨H1,I1,q1⟩
theorem sX (ha:PT X a tA)(hb:PW X (.BoolOp .Or (b::rest) pos) tB'):PW X (.BoolOp .Or (a::b::rest) pos) (tOr tA tB'):=by
 intro wh pins s σ H Q I h;refine isTrue_or (thn (ha pins s σ H _ I h) fun c s1 ⟨H1,I1,q1⟩=>?_)
 cases c with
 | true=>exact ⟨H1,I1,q1⟩
 | false=>exact hb wh pins s1 σ H1 Q I1 q1
theorem pH (ha:PT X a tA):PT X (.UnaryOp .Not a pos) (Qo tA):=by
 intro pins s σ H Q I h;exact isTrue_not (ha pins s σ H (fun c H1=>Q (!c) H1) I h)
def Nh (ta tb:TE):TE:=fun σ H Q=>ta σ H fun x H1=>∃ c,x = .bl c∧if c=true then tb σ H1 Q else Q (.bl false) H1
def Ob (ta:TE):TE:=fun σ H Q=>ta σ H fun x H1=>∃ c,x = .bl c∧Q (.bl (!c)) H1
theorem Es {op}{t:TE}(h:PE X a t):PE X (.BoolOp op [a] pos) t:=fun pins s σ H Q I hw=>BoolOp_one (h pins s σ H Q I hw)
theorem yJ (ha:PE X a ta)(hb:PE X (.BoolOp .And (b::rest) pos) tb):PE X (.BoolOp .And (a::b::rest) pos) (Nh ta tb):=by
 intro pins s σ H Q I h;refine BoolOp_and (thn (ha pins s σ H _ I h) fun v s1 ⟨x,H1,I1,r1,q1⟩=>?_);obtain ⟨c,rfl,q1⟩:=q1;cases r1;refine wpAny_truthy_bool ?_
 cases c with
 | true=>exact hb pins s1 σ H1 Q I1 q1
 | false=>exact ⟨.bl false,H1,I1,rfl,q1⟩
theorem Mo (ha:PE X a ta):PE X (.UnaryOp .Not a pos) (Ob ta):=by
 intro pins s σ H Q I h;refine UnaryOp_ (thn (ha pins s σ H _ I h) fun v s1 ⟨x,H1,I1,r1,q1⟩=>?_);obtain ⟨c,rfl,q1⟩:=q1;cases r1;exact not_of (wpAny_truthy_bool ⟨.bl (!c),H1,I1,rfl,q1⟩)
def tIf (t:TT)(ta tb:TE):TE:=fun σ H Q=>t σ H fun c H1=>if c=true then ta σ H1 Q else tb σ H1 Q
theorem Hy {c:Expr}(hc:PT X c tA)(ha:PE X a ta)(hb:PE X b tb):PE X (.IfExp c a b pos) (tIf tA ta tb):=by
 intro pins s σ H Q I h;refine wpAny_IfExp (thn (hc pins s σ H _ I h) fun d s1 ⟨H1,I1,q1⟩=>?_)
 cases d with
 | true=>exact ha pins s1 σ H1 Q I1 q1
 | false=>exact hb pins s1 σ H1 Q I1 q1
end
def SqL (K:PySem.W.Frag)(H:Hp)(a:Addr)(xs:List V):Prop :=
 Rd H a (.lst xs) ∨
  ∃ (o:Obj) (its:Array Value) (n:Nat),K.lookup a=some o∧o.cls = .type "list" ∧ o.dict=none∧o.data = .seq its n∧its.size<=sizeLine∧bT xs its.toList
def SqT (K:PySem.W.Frag)(H:Hp)(a:Addr)(xs:List V):Prop :=
 Rd H a (.tup xs) ∨
  ∃ (o:Obj) (its:Array Value) (n:Nat),K.lookup a=some o∧o.cls = .type "tuple" ∧ o.data = .seq its n∧its.size<=sizeLine∧bT xs its.toList
def Qv:Value->Option V
 | .none=>some .non
 | .bool b=>some (.bl b)
 | .int i _=>some (.int i)
 | .str x _=>some (.str x)
 | .bytes b _=>some (.byt b)
 | .float b _=>some (.flt b)
 | .ref a=>some (.ref a)
 | .type n=>some (.ty n)
 | _=>none
theorem bE.abs {x:V}{u:Value}(r:bE x u):Qv u=some x:=by
 cases x with
 | non=>cases r;rfl
 | bl _=>cases r;rfl
 | int _=>obtain ⟨t,rfl⟩:=r;rfl
 | str _=>obtain ⟨t,rfl⟩:=r;rfl
 | byt _=>obtain ⟨t,rfl⟩:=r;rfl
 | flt _=>obtain ⟨t,rfl⟩:=r;rfl
 | ref _=>cases r;rfl
 | ty _=>cases r;rfl
theorem bE.inj {x y:V}{u:Value}(r:bE x u)(q:bE y u):x=y:=Option.some.inj (r.abs.symm.trans q.abs)
theorem bT.inj:∀ {xs ys:List V} {us:List Value},bT xs us->bT ys us->xs=ys
 | _,_,_,.nil,.nil=>rfl
 | _,_,_,.cons r t,.cons r' t'=>by rw [r.inj r',bT.inj t t']
section
variable {X:Cx}{pins:List (Addr×Obj)}{σ:St}{H:Hp}{s:Shared}{a:Addr}{xs ys:List V}
theorem SqL.of {K:PySem.W.Frag}(h:H a=some (.lst xs)):SqL K H a xs:=.inl (.inl h)
theorem SqT.of {K:PySem.W.Frag}(h:H a=some (.tup xs)):SqT K H a xs:=.inl (.inl h)
theorem Inv.list (I:Inv X pins σ H s)(h:SqL X.K H a xs):∃ its:List Value,bT xs its∧PlainL s.heap a its.toArray∧xs.length<=sizeLine:=by
 rcases h with h | ⟨o,its,n,hk,hc,hd,hs,hz,r⟩
 ·obtain ⟨z,its,n,r,e⟩:=h.ok I.hok
  exact ⟨its,r,⟨_,n,e,rfl,rfl,rfl⟩,z⟩
 ·refine ⟨its.toList,r,⟨o,n,I.kIn a o hk,hc,hd,by simpa using hs⟩,?_⟩
  have e:=r.length;simp only [Array.length_toList] at e;omega
theorem Inv.tuple (I:Inv X pins σ H s)(h:SqT X.K H a xs):∃ its:List Value,bT xs its∧IsTup s.heap a its.toArray∧xs.length<=sizeLine:=by
 rcases h with h | ⟨o,its,n,hk,hc,hs,hz,r⟩
 ·obtain ⟨z,its,r,p⟩:=h.ok I.hok
  exact ⟨its,r,p,z⟩
 ·refine ⟨its.toList,r,⟨o,I.kIn a o hk,hc,n,by simpa using hs⟩,?_⟩
  have e:=r.length;simp only [Array.length_toList] at e;omega
theorem Inv.list_inj (I:Inv X pins σ H s)(h:SqL X.K H a xs)(h':SqL X.K H a ys):xs=ys:=by
 obtain ⟨its,r,⟨o,n,e,_,_,d⟩,_⟩:=I.list h;obtain ⟨its',r',⟨o',n',e',_,_,d'⟩,_⟩:=I.list h';rw [e] at e';cases e';rw [d] at d'
 injection d' with d1 _
 have:its=its':=by simpa using congrArg Array.toList d1
 subst this;exact r.inj r'
theorem Inv.tuple_inj (I:Inv X pins σ H s)(h:SqT X.K H a xs)(h':SqT X.K H a ys):xs=ys:=by
 obtain ⟨its,r,⟨o,e,_,n,d⟩,_⟩:=I.tuple h;obtain ⟨its',r',⟨o',e',_,n',d'⟩,_⟩:=I.tuple h';rw [e] at e';cases e';rw [d] at d'
 injection d' with d1 _
 have:its=its':=by simpa using congrArg Array.toList d1
 subst this;exact r.inj r'
end
abbrev Cx.wish (X:Cx)(E:Value->Shared->Prop):Cx:={ X with xe:=E }
abbrev Cx.nox (X:Cx):Cx:=X.wish fun _ _=>False
theorem Cx.Ok.wish {X:Cx}(ok:X.Ok)(E:Value->Shared->Prop):(X.wish E).Ok :=
 ⟨ok.mod,ok.kind,ok.glob,ok.blt,ok.above,ok.inj,ok.has,ok.cab,ok.hd,ok.frames,ok.stk,ok.exf,ok.bs,ok.bsz,ok.noex,ok.exfs,ok.funs,ok.frf⟩
theorem Cx.Ok.unwish {X:Cx}{E:Value->Shared->Prop}(ok:(X.wish E).Ok):X.Ok :=
 ⟨ok.mod,ok.kind,ok.glob,ok.blt,ok.above,ok.inj,ok.has,ok.cab,ok.hd,ok.frames,ok.stk,ok.exf,ok.bs,ok.bsz,ok.noex,ok.exfs,ok.funs,ok.frf⟩
section
variable {X:Cx}{pins:List (Addr×Obj)}{σ:St}{H:Hp}{s:Shared}{E:Value->Shared->Prop}
theorem Inv.wish (I:Inv X pins σ H s)(E:Value->Shared->Prop):Inv (X.wish E) pins σ H s:=⟨I.ok.wish E,I.os,I.bare,I.base,I.loc,I.cell,I.free,I.freeC,I.pin,I.hok,I.len⟩
theorem Inv.unwish (I:Inv (X.wish E) pins σ H s):Inv X pins σ H s:=⟨I.ok.unwish,I.os,I.bare,I.base,I.loc,I.cell,I.free,I.freeC,I.pin,I.hok,I.len⟩
theorem SP.unwish {D:kF}{f:Flow}{s':Shared}(h:SP (X.wish E) pins D f s'):SP X pins D f s':=by
 cases f with
 | next=>obtain ⟨σ',H',I,q⟩:=h;exact ⟨σ',H',I.unwish,q⟩
 | brk=>obtain ⟨σ',H',I,q⟩:=h;exact ⟨σ',H',I.unwish,q⟩
 | cont=>obtain ⟨σ',H',I,q⟩:=h;exact ⟨σ',H',I.unwish,q⟩
 | ret u=>obtain ⟨v,σ',H',I,r,q⟩:=h;exact ⟨v,σ',H',I.unwish,r,q⟩
theorem PSs.nox {st:List Stmt}{t:TS}(h:PSs X.nox st t):PSs X st t:=fun pins s σ H D I hw =>
 wpAny_mono (h pins s σ H D (I.wish _) hw) (fun _ _ q=>q.unwish) fun _ _ z=>False.elim z
end
section
variable {X:Cx}{st:Stmt}{rest:List Stmt}{t u:TS}{e:Expr}{te:TE}{pos:Pos}
def Pd:TS:=fun D σ H=>D.nx σ H
def Qd (t u:TS):TS:=fun D σ H=>t { D with nx:=u D } σ H
theorem aW:PSs X [] Pd:=fun _ _ σ H _ I h=>wpAny_execs_nil ⟨σ,H,I,h⟩
theorem aB (h1:PS X st t)(h2:PSs X rest u):PSs X (st::rest) (Qd t u):=by
 intro pins s σ H D I h;refine wpAny_execs_cons (thn (h1 pins s σ H { D with nx:=u D } I h) fun f s1 q=>?_)
 cases f with
 | next =>
  obtain ⟨σ',H',I',q⟩:=q;exact h2 pins s1 σ' H' D I' q
 | ret v=>exact q
 | brk=>exact q
 | cont=>exact q
theorem aF (h1:PS X st t):PSs X [st] t:=by
 intro pins s σ H D I h;refine wpAny_execs_cons (thn (h1 pins s σ H D I h) fun f s1 q=>?_)
 cases f with
 | next=>exact wpAny_execs_nil q
 | ret v=>exact q
 | brk=>exact q
 | cont=>exact q
def Ng:TS:=fun D σ H=>D.bk σ H
theorem wO:PS X (.Break pos) Ng:=fun _ _ σ H _ I h=>wpAny_Break ⟨σ,H,I,h⟩
theorem Inv.quiet {pins:List (Addr×Obj)}{σ:St}{H:Hp}{s:Shared}(I:Inv X pins σ H s):interactive X.env=false:=by simp [interactive,I.ok.kind]
def Nw (te:TE):TS:=fun D σ H=>te σ H fun _ H1=>D.nx σ H1
theorem eJ (he:PE X e te)(hs:swapsWith e none pos.line X.env=pure false:=by rfl):PS X (.Expr e pos) (Nw te):=by
 intro pins s σ H D I h;exact wpAny_Expr_any (thn (he pins s σ H _ I h) fun v s1 ⟨x,H1,I1,r1,q1⟩=>⟨σ,H1,I1,q1⟩) I.quiet hs
def Qk (te:TE):TS:=fun D σ H=>te σ H D.rt
theorem bD (he:PE X e te):PS X (.Return (some e) pos) (Qk te):=by
 intro pins s σ H D I h;exact wpAny_Return_some (thn (he pins s σ H _ I h) fun v s1 ⟨x,H1,I1,r1,q1⟩=>⟨x,σ,H1,I1,r1,q1⟩)
def Pz (c:TT)(t u:TS):TS:=fun D σ H=>c σ H fun b H1=>if b=true then t D σ H1 else u D σ H1
theorem bX {c:Expr}{a b:List Stmt}{tc:TT}(hc:PT X c tc)(ha:PSs X a t)(hb:PSs X b u):PS X (.If c a b pos) (Pz tc t u):=by
 intro pins s σ H D I h;refine wpAny_If (thn (hc pins s σ H _ I h) fun d s1 ⟨H1,I1,q1⟩=>?_)
 cases d with
 | true=>exact ha pins s1 σ H1 D I1 q1
 | false=>exact hb pins s1 σ H1 D I1 q1
end
abbrev TG:=V->St->Hp->(St->Hp->Prop)->Prop
abbrev TGs:=List V->St->Hp->(St->Hp->Prop)->Prop
def PG (X:Cx)(target:Expr)(t:TG):Prop :=
 ∀ (pins:List (Addr×Obj)) (s:Shared) (σ:St) (H:Hp) (v:V) (u:Value) (Q:St->Hp->Prop),Inv X pins σ H s->bE v u->t v σ H Q ->
  wpAny (model X.prog X.w) X.A (assign target X.env u) (fun _ s'=>∃ σ' H',Inv X pins σ' H' s'∧Q σ' H') X.xe s
def PGs (X:Cx)(ts:List Expr)(t:TGs):Prop :=
 ∀ (pins:List (Addr×Obj)) (s:Shared) (σ:St) (H:Hp) (vs:List V) (us:List Value) (Q:St->Hp->Prop),Inv X pins σ H s->bT vs us->t vs σ H Q ->
  wpAny (model X.prog X.w) X.A (assignInOrder ((assignEach ts X.env).map (·.2)) us) (fun _ s'=>∃ σ' H',Inv X pins σ' H' s'∧Q σ' H') X.xe s
abbrev Ql:=V->V->V->Hp->(Hp->Prop)->Prop
def Qu (X:Cx)(t:Ql):Prop :=
 ∀ (pins:List (Addr×Obj)) (s:Shared) (σ:St) (H:Hp) (o i v:V) (ov iv u:Value) (Q:Hp->Prop),Inv X pins σ H s->bE o ov->bE i iv->bE v u->t o i v H Q ->
  wpAny (model X.prog X.w) X.A (setItem ov iv u) (fun _ s'=>∃ H',Inv X pins σ H' s'∧Q H') X.xe s
section
variable {X:Cx}{pos:Pos}
def tG (i:Nat):TG:=fun v σ H Q=>Q (σ.set i (some v)) H
theorem bO {i:Nat}{x:Str}(hN:X.N.Nodup)(hi:X.N[i]?=some x)(hx:Loc X.env.scope x)(hf:X.fn x=true∨X.env.scope.names.lookup x=some .local:=by first | exact .inl rfl | exact .inr rfl | assumption):PG X (.Name x pos) (tG i):=by
 intro pins s σ H v u Q I r h;exact wpAny_assign_Name (qU I hN hi hx r (fun s' I'=>⟨_,H,I',h⟩) hf)
def Qi:TGs:=fun vs σ H Q=>vs=[]∧Q σ H
def Nj (t:TG)(u:TGs):TGs:=fun vs σ H Q=>∃ v r,vs=v::r∧t v σ H fun σ' H'=>u r σ' H' Q
theorem vK:PGs X [] Qi:=by
 intro pins s σ H vs us Q I r h;obtain ⟨e,h⟩:=h;subst e;cases r;exact assignInOrder_nil ⟨σ,H,I,h⟩
theorem iC {e:Expr}{es:List Expr}{t:TG}{u:TGs}(h1:PG X e t)(h2:PGs X es u)
  (hs:(assignEach (e::es) X.env).map (·.2)=assign e X.env::(assignEach es X.env).map (·.2):=by rfl):PGs X (e::es) (Nj t u):=by
 intro pins s σ H vs us Q I r h;obtain ⟨v,vr,e1,h⟩:=h;subst e1
 cases r with
 | cons r rr =>
  rw [hs];refine assignInOrder_cons (thn (h1 pins s σ H _ _ _ I r h) fun _ s1 ⟨σ1,H1,I1,q1⟩=>?_);exact h2 pins s1 σ1 H1 _ _ Q I1 rr q1
def Qn (K:PySem.W.Frag)(n:Nat)(t:TGs):TG:=fun v σ H Q=>∃ a xs,v = .ref a∧SqT K H a xs∧xs.length=n∧t xs σ H Q
theorem zG {es:List Expr}{k:Nat}{t:TGs}{n:Nat}(hc:X.calm=true)(h:PGs X es t)
  (hn:(assignEach es X.env).length=n:=by rfl) (hst:(assignEach es X.env).findIdx? (·.1)=none:=by rfl):PG X (.Tuple es k pos) (Qn X.K n t):=by
 intro pins s σ H v u Q I r hw;obtain ⟨a,xs,e1,hq,hl,hw⟩:=hw;subst e1;cases r;obtain ⟨its,rv,ht,hz⟩:=I.tuple hq;refine assign_Tuple_tuple (I.ok.hd hc) ht (by simp [hn,<- hl,rv.length]) hst fun h' hx=>?_
 have I1:Inv X pins σ H { s with heap:=h' }:=I.kept (t':=s.toks) fun b o e=>hx b o (Nat.ne_of_lt (Heap.lt_size e)) e
 exact h pins _ σ H xs _ Q I1 (by simpa using rv) hw
def Hq (te:TE)(g:TG):TS:=fun D σ H=>te σ H fun x H1=>g x σ H1 D.nx
theorem Mw {tg e:Expr}{te:TE}{g:TG}(he:PE X e te)(hg:PG X tg g)(hs:swapsWithSole [tg] e pos.line X.env=pure false:=by rfl)(hw:swappedStores [tg] e X.env=pure none:=by rfl)
  (h1:(assignEach [tg] X.env).map (·.2)=[assign tg X.env]:=by rfl):PS X (.Assign [tg] e pos) (Hq te g):=by
 intro pins s σ H D I h;refine wpAny_Assign_stores (thn (he pins s σ H _ I h) fun v s1 ⟨x,H1,I1,r1,q1⟩=>?_) hs hw;rw [h1];exact thn (hg pins s1 σ H1 x v _ I1 r1 q1) fun _ s2 q=>q
theorem aJ {i:Nat}{x:Str}{e:Expr}{te:TE}{pos':Pos}(hN:X.N.Nodup)(hi:X.N[i]?=some x)(hx:Loc X.env.scope x)(he:PE X e te)(hs:swapsWith e (some (.Name x pos')) pos.line X.env=pure false:=by rfl)(hf:X.fn x=true∨X.env.scope.names.lookup x=some .local:=by first | exact .inl rfl | exact .inr rfl | assumption) :
  PS X (.Assign [.Name x pos'] e pos) (Hq te (tG i)):=by
 intro pins s σ H D I h;refine wpAny_Assign_Name (thn (he pins s σ H _ I h) fun v s1 ⟨y,H1,I1,r1,q1⟩=>?_) hs;exact qU I1 hN hi hx r1 (fun s2 I2=>⟨_,H1,I2,q1⟩) hf
def Lc (c:TT)(tb:TS):TS:=fun D σ H=>∃ W:Nat->St->Hp->Prop,(∃ m,W m σ H)∧∀ m σ H,W m σ H ->
 c σ H fun b H1=>if b=true then ∃ N:St->Hp->Prop,(∀ σ' H',N σ' H'->∃ m',m'<m∧W m' σ' H')∧tb { D with nx:=N,ct:=N,bk:=D.nx } σ H1 else D.nx σ H1
theorem jH {c:Expr}{body:List Stmt}{tc:TT}{tb:TS}(hp:PassesOwn (model X.prog X.w) X.A X.env X.xe)(hc:PT X c tc)(hb:PSs X body tb):PS X (.While c body [] pos) (Lc tc tb):=by
 intro pins s σ H D I h;obtain ⟨W,⟨m0,w0⟩,turn⟩:=h;refine wpAny_While (codeAny_whileLoop (fun n s'=>∃ σ' H',Inv X pins σ' H' s'∧W n σ' H') ?_ m0 ⟨σ,H,I,w0⟩);rintro n s1 ⟨σ1,H1,I1,w1⟩;refine wpAny_passesOwn hp (thn (hc pins s1 σ1 H1 _ I1 (turn n σ1 H1 w1)) fun b s2 ⟨H2,I2,q2⟩=>?_)
 cases b with
 | true =>
  obtain ⟨N,hN,q2⟩:=q2;rw [if_pos rfl];refine wpAny_passesOwn hp (thn (hb pins s2 σ1 H2 _ I2 q2) fun f s3 q3=>?_)
  cases f with
  | next =>
   obtain ⟨σ3,H3,I3,n3⟩:=q3;obtain ⟨m',hm,w3⟩:=hN σ3 H3 n3;exact ⟨m',hm,σ3,H3,I3,w3⟩
  | cont =>
   obtain ⟨σ3,H3,I3,n3⟩:=q3;obtain ⟨m',hm,w3⟩:=hN σ3 H3 n3;exact ⟨m',hm,σ3,H3,I3,w3⟩
  | brk=>exact q3
  | ret v=>exact q3
 | false =>
  rw [if_neg Bool.false_ne_true];exact wpAny_execs_nil ⟨σ1,H2,I2,q2⟩
end
set_option genInjectivity false in
structure It where
 go:Nat->Hp->Prop
 yld:Nat->Hp->V->Hp->Prop
 stop:Nat->Hp->Prop
def kU (X:Cx)(pins:List (Addr×Obj))(H:Hp)(b:Addr):Prop :=
 H b=none∧b≠X.env.locals∧b∉X.fs∧(b∈X.ex∨X.s₀.heap.objs.size<=b)∧(∀ x c,X.env.cells.lookup x=some c->c≠b)∧∀ p∈X.pn++pins,p.1≠b
theorem Inv.fpOk {X:Cx}{pins:List (Addr×Obj)}{σ:St}{H H':Hp}{s:Shared}{b:Addr}(I:Inv X pins σ H s)(hb:s.heap.objs.size<=b)(hn:H' b=none):kU X pins H' b:=by
 refine ⟨hn,Nat.ne_of_gt (Nat.lt_of_lt_of_le I.lt hb),I.nofs hb,.inr (Nat.le_trans I.sz hb),fun x c e z=>?_,fun p hp z=>?_⟩
 ·obtain ⟨v,q⟩:=I.cell x c e
  exact absurd (Nat.lt_of_lt_of_le q.lt (by rw [z];exact hb)) (Nat.lt_irrefl _)
 ·exact absurd (Nat.lt_of_lt_of_le (Heap.lt_size (I.pin p hp).1) (by rw [z];exact hb)) (Nat.lt_irrefl _)
set_option genInjectivity false in
structure rX (P:Program)(w:World)(K:PySem.W.Frag)(tg:Expr)(J:It)(fp:List Addr)(it:Addr)(tn:Nat->Heap->Prop):Prop where
 mem:it∈fp
 obj:∀ i h,tn i h->∀ b∈fp,∃ o,h.get? b=some o∧∀ v,o.data≠.cell v
 keep:∀ i h h',tn i h->(∀ b∈fp,∀ o,h.get? b=some o->h'.get? b=some o)->tn i h'
 item:∀ (X:Cx),X.prog=P->X.w=w->X.K=K->X.calm=true->∀ (i:Nat) (pins:List (Addr×Obj)) (s:Shared) (σ:St) (H:Hp) (E:Value->Shared->Prop),Inv X pins σ H s->(∀ b∈fp,kU X pins H b)->tn i s.heap->J.go i H ->
  wpAny (model P w) X.A (pyNext (.ref it)) (fun r s1=>∃ u,r=some u ∧
   wpAny (model P w) X.A (letOwnedTupleGo tg (.ref it) u) (fun _ s2=>∃ x H',Inv X pins σ H' s2∧bE x u∧J.yld i H x H'∧tn (i+1) s2.heap∧∀ b∈fp,H' b=none) E s1) E s
 done:∀ (X:Cx),X.prog=P->X.w=w->X.K=K->X.calm=true->∀ (i:Nat) (pins:List (Addr×Obj)) (s:Shared) (σ:St) (H:Hp) (E:Value->Shared->Prop),Inv X pins σ H s->(∀ b∈fp,kU X pins H b)->tn i s.heap->J.stop i H ->
  wpAny (model P w) X.A (pyNext (.ref it)) (fun r s1=>r=none∧Inv X pins σ H s1) E s
 self:∀ (A:Around) (i:Nat) (s:Shared) (Q:Value->Shared->Prop) (E:Value->Shared->Prop),tn i s.heap->Q (.ref it) s->wpAny (model P w) A (pyIter (.ref it)) Q E s
abbrev TI:=St->Hp->(It->Hp->Prop)->Prop
def PIE (X:Cx)(pins:List (Addr×Obj))(σ:St)(tg:Expr)(R:It->Hp->Prop)(itv:Value)(s2:Shared):Prop :=
 ∃ (it:Addr) (fp:List Addr) (tn:Nat->Heap->Prop) (J:It) (H':Hp),itv = .ref it∧Inv X pins σ H' s2∧rX X.prog X.w X.K tg J fp it tn∧tn 0 s2.heap∧(∀ b∈fp,kU X pins H' b)∧R J H'
def PI (X:Cx)(tg iter:Expr)(wi:TI):Prop :=
 ∀ (pins:List (Addr×Obj)) (s:Shared) (σ:St) (H:Hp) (R:It->Hp->Prop),Inv X pins σ H s->wi σ H R ->
  wpAny (model X.prog X.w) X.A (eval iter X.env) (fun v s1=>wpAny (model X.prog X.w) X.A (pyIter v) (PIE X pins σ tg R) X.xe s1) X.xe s
theorem Ab {M : Model} {A : Around} {E : Value → Shared → Prop} {s : Shared} {tg : Expr} {it : Addr} {u : Value} {o : Obj} {n : String} {vs : Array Value} {Q : Unit → Shared → Prop} (ho : s.heap.get? it = some o) (hc : o.cls = .type n) (hd : o.data = .fields vs)
    (hn : ["enumerate", "zip", "dict_itemiterator", "dict_reverseitemiterator", "odict_iterator", "itertools.zip_longest", "itertools.pairwise"].contains n = false) (hQ : Q () s) : wpAny M A (letOwnedTupleGo tg (.ref it) u) Q E s := by
  unfold letOwnedTupleGo;cases tg <;> first
    | exact wpAny_pure hQ
    | (cases u <;> first
        | exact wpAny_pure hQ
        | (refine wpAny_bind (wpAny_load ho ?_)
           rw [hc, hd];show wpAny M A (if (["enumerate", "zip", "dict_itemiterator", "dict_reverseitemiterator", "odict_iterator", "itertools.zip_longest", "itertools.pairwise"].contains n && vs[0]? == some (rawInt _)) = true then _ else _) Q E s
           rw [if_neg (by intro h; rw [hn, Bool.false_and] at h; cases h)];exact wpAny_pure hQ))
def Itl (K:PySem.W.Frag)(a:Addr):It :=
 ⟨fun i H=>∃ xs x,SqL K H a xs∧xs[i]?=some x,fun i H x H'=>H'=H∧∀ xs,SqL K H a xs->xs[i]?=some x,fun i H=>∃ xs,SqL K H a xs∧xs.length<=i⟩
def Itt (K:PySem.W.Frag)(a:Addr):It :=
 ⟨fun i H=>∃ xs x,SqT K H a xs∧xs[i]?=some x,fun i H x H'=>H'=H∧∀ xs,SqT K H a xs->xs[i]?=some x,fun i H=>∃ xs,SqT K H a xs∧xs.length<=i⟩
def Itr (lo:Int)(n:Nat):It:=⟨fun i _=>i<n,fun i H x H'=>H'=H∧x = .int (lo+i),fun i _=>n<=i⟩
theorem sW {P:Program}{w:World}{K:PySem.W.Frag}{tg:Expr}(a it:Addr):rX P w K tg (Itl K a) [it] it (fun i h=>h.IsListIter it a i) where
 mem:=by simp
 obj:=fun i h st b hb=>by
  have e:b=it:=by simpa using hb
  subst e;obtain ⟨o,e,c,d⟩:=st;exact ⟨o,e,fun v z=>by rw [d] at z;cases z⟩
 keep:=fun i h h' st k=>st.at fun o e=>k it (by simp) o e
 item:=by
  intro X hP hw hK hc i pins s σ H E I hf st hg;subst hP hw hK;obtain ⟨xs,x,hq,hx⟩:=hg;obtain ⟨its,rv,p,hz⟩:=I.list hq;obtain ⟨u,hu,ru⟩:=rv.get hx;obtain ⟨f0,f1,f2,f3,f4,f5⟩:=hf it (by simp);refine wpAny_pyNext_list_item st p.isList (x:=u) (by simpa using hu) fun h' st' sb=>?_
  have I1:Inv X pins σ H { s with heap:=h' }:=I.turned (t':=s.toks) (fun b o hb e=>(sb.2 b hb).trans e) f0 f1 f3 f4 f5;obtain ⟨o,e,c,d⟩:=id st';exact ⟨u,rfl,Ab (s:={ s with heap:=h' }) e c d (by decide) ⟨x,H,I1,ru,⟨rfl,fun ys hy=>by rw [I.list_inj hy hq];exact hx⟩,st',fun b hb=>(hf b hb).1⟩⟩
 done:=by
  intro X hP hw hK hc i pins s σ H E I hf st hg;subst hP hw hK;obtain ⟨xs,hq,hx⟩:=hg;obtain ⟨its,rv,p,hz⟩:=I.list hq;obtain ⟨f0,f1,f2,f3,f4,f5⟩:=hf it (by simp);have hl:=rv.length;exact wpAny_pyNext_list_end (I.ok.hd hc) st p.isList (by simp;omega) fun h' eb=>⟨rfl,I.turned (t':=s.toks) (fun b o hb e=>eb b o hb e) f0 f1 f3 f4 f5⟩
 self:=fun _ _ _ _ _ st h=>wpAny_pyIter_listiter st h
theorem pO {P:Program}{w:World}{K:PySem.W.Frag}{tg:Expr}(a it:Addr):rX P w K tg (Itt K a) [it] it (fun i h=>h.IsTupleIter it a i) where
 mem:=by simp
 obj:=fun i h st b hb=>by
  have e:b=it:=by simpa using hb
  subst e;obtain ⟨o,e,c,d⟩:=st;exact ⟨o,e,fun v z=>by rw [d] at z;cases z⟩
 keep:=fun i h h' st k=>st.at fun o e=>k it (by simp) o e
 item:=by
  intro X hP hw hK hc i pins s σ H E I hf st hg;subst hP hw hK;obtain ⟨xs,x,hq,hx⟩:=hg;obtain ⟨its,rv,p,hz⟩:=I.tuple hq;obtain ⟨u,hu,ru⟩:=rv.get hx;obtain ⟨f0,f1,f2,f3,f4,f5⟩:=hf it (by simp);refine wpAny_pyNext_tuple_item st (show s.heap.IsTuple a its.toArray from p) (x:=u) (by simpa using hu) fun h' st' sb=>?_
  have I1:Inv X pins σ H { s with heap:=h' }:=I.turned (t':=s.toks) (fun b o hb e=>(sb.2 b hb).trans e) f0 f1 f3 f4 f5;obtain ⟨o,e,c,d⟩:=id st';exact ⟨u,rfl,Ab (s:={ s with heap:=h' }) e c d (by decide) ⟨x,H,I1,ru,⟨rfl,fun ys hy=>by rw [I.tuple_inj hy hq];exact hx⟩,st',fun b hb=>(hf b hb).1⟩⟩
 done:=by
  intro X hP hw hK hc i pins s σ H E I hf st hg;subst hP hw hK;obtain ⟨xs,hq,hx⟩:=hg;obtain ⟨its,rv,p,hz⟩:=I.tuple hq;obtain ⟨f0,f1,f2,f3,f4,f5⟩:=hf it (by simp);have hl:=rv.length;exact wpAny_pyNext_tuple_end (I.ok.hd hc) st (show s.heap.IsTuple a its.toArray from p) (by simp;omega) fun h' eb=>⟨rfl,I.turned (t':=s.toks) (fun b o hb e=>eb b o hb e) f0 f1 f3 f4 f5⟩
 self:=fun _ _ _ _ _ st h=>wpAny_pyIter_tupleiter st h
theorem zK {P:Program}{w:World}{K:PySem.W.Frag}{tg:Expr}(it:Addr)(lo:Int)(n:Nat):rX P w K tg (Itr lo n) [it] it (fun i h=>IsRangeIter h it (lo+(i:Nat)*1) ((n:Int)-(i:Nat)) 1) where
 mem:=by simp
 obj:=fun i h st b hb=>by
  have e:b=it:=by simpa using hb
  subst e;exact ⟨_,st,fun v z=>by
   have z':Data.fields _=Data.cell v:=z;cases z'⟩
 keep:=fun i h h' st k=>k it (by simp) _ st
 item:=by
  intro X hP hw hK hc i pins s σ H E I hf st hg;subst hP hw hK;obtain ⟨f0,f1,f2,f3,f4,f5⟩:=hf it (by simp);have W:=Walks.range (prog:=X.prog) (w:=X.w) (I.ok.hd hc) it lo 1 n;refine W.item i s _ _ hg st fun v h' tk hv st' kk=>?_
  obtain ⟨t,rfl⟩:=hv;have I1:Inv X pins σ H { s with heap:=h',toks:=tk }:=I.turned (fun b o hb e=>kk b o (by simpa using hb) e) f0 f1 f3 f4 f5;refine ⟨_,rfl,Ab (s:={ s with heap:=h',toks:=tk }) (n := "range_iterator") st' rfl rfl (by decide) ⟨.int (lo+i),H,I1,⟨t,?_⟩,⟨rfl,rfl⟩,st',fun b hb=>(hf b hb).1⟩⟩
  rw [Int.mul_one]
 done:=by
  intro X hP hw hK hc i pins s σ H E I hf st hg;subst hP hw hK;obtain ⟨f0,f1,f2,f3,f4,f5⟩:=hf it (by simp);exact wpAny_pyNext_range_end (I.ok.hd hc) st (by have:n<=i:=hg;omega) fun h' eb=>⟨rfl,I.turned (t':=s.toks) (fun b o hb e=>eb b o hb e) f0 f1 f3 f4 f5⟩
 self:=fun _ _ _ _ _ st h=>wpAny_pyIter_rangeiter st h
section
variable {X:Cx}{tg:Expr}
def Oz (K:PySem.W.Frag)(tl:TE):TI:=fun σ H R=>tl σ H fun x H1=>∃ a,x = .ref a∧(∃ xs,SqL K H1 a xs)∧R (Itl K a) H1
def Pq (K:PySem.W.Frag)(tl:TE):TI:=fun σ H R=>tl σ H fun x H1=>∃ a,x = .ref a∧(∃ xs,SqT K H1 a xs)∧R (Itt K a) H1
theorem bW {l:Expr}{tl:TE}(hl:PE X l tl):PI X tg l (Oz X.K tl):=by
 intro pins s σ H R I h;refine thn (hl pins s σ H _ I h) fun v s1 ⟨x,H1,I1,r1,q1⟩=>?_
 obtain ⟨a,e,⟨xs,hq⟩,q⟩:=q1;subst e;cases r1;obtain ⟨its,rv,p,hz⟩:=I1.list hq;refine wpAny_pyIter_list p.isList ?_;refine ⟨s1.heap.objs.size,[s1.heap.objs.size],_,_,H1,rfl,I1.kept (t':=s1.toks) fun b o e=>Heap.get?_push_of_some _ e,sW a _,⟨_,Heap.get?_push_size _ rfl,rfl,rfl⟩,fun b hb=>?_,q⟩;have e:b=s1.heap.objs.size:=by simpa using hb
 subst e;exact I1.fpOk (Nat.le_refl _) (I1.hok.fresh (Nat.le_refl _))
theorem zP {l:Expr}{tl:TE}(hl:PE X l tl):PI X tg l (Pq X.K tl):=by
 intro pins s σ H R I h;refine thn (hl pins s σ H _ I h) fun v s1 ⟨x,H1,I1,r1,q1⟩=>?_
 obtain ⟨a,e,⟨xs,hq⟩,q⟩:=q1;subst e;cases r1;obtain ⟨its,rv,p,hz⟩:=I1.tuple hq;refine wpAny_pyIter_tuple (show s1.heap.IsTuple a its.toArray from p) ?_;refine ⟨s1.heap.objs.size,[s1.heap.objs.size],_,_,H1,rfl,I1.kept (t':=s1.toks) fun b o e=>Heap.get?_push_of_some _ e,pO a _,⟨_,Heap.get?_push_size _ rfl,rfl,rfl⟩,fun b hb=>?_,q⟩;have e:b=s1.heap.objs.size:=by simpa using hb
 subst e;exact I1.fpOk (Nat.le_refl _) (I1.hok.fresh (Nat.le_refl _))
theorem Ep {pins:List (Addr×Obj)}{σ:St}{H:Hp}{s:Shared}{R:It->Hp->Prop}{E:Value->Shared->Prop}{lo hi:Int}{t u v:Tok}{tk:Nat}(I:Inv X pins σ H s)(h1 : -(2 ^ 62)<=lo)(h2:lo<2 ^ 62)(h3 : -(2 ^ 62)<=hi)(h4:hi<2 ^ 62)
  (q:R (Itr lo (hi-lo).toNat) H):wpAny (model X.prog X.w) X.A (pyIter (.ref s.heap.objs.size)) (PIE X pins σ tg R) E { s with heap:=s.heap.push { cls:=.type "range",data:=.fields #[.int lo t,.int hi u,.int 1 v] },toks:=tk }:=by
 refine wpAny_pyIter_range (IsRange.new ..) (small_one h1 h2 h3 h4) ?_;have I1:Inv X pins σ H { s with heap:=s.heap.push { cls:=.type "range",data:=.fields #[.int lo t,.int hi u,.int 1 v] },toks:=tk }:=I.kept fun b o e=>Heap.get?_push_of_some _ e
 refine ⟨(s.heap.push { cls:=.type "range",data:=.fields #[.int lo t,.int hi u,.int 1 v] }).objs.size,[(s.heap.push { cls:=.type "range",data:=.fields #[.int lo t,.int hi u,.int 1 v] }).objs.size],_,_,H,rfl,
  I1.kept (t':=tk) fun b o e=>Heap.get?_push_of_some _ e,zK _ lo (hi-lo).toNat,?_,fun b hb=>?_,q⟩
 ·have e1:lo+((0:Nat):Int)*1=lo:=by simp
  have e2:(((hi-lo).toNat:Nat):Int)-((0:Nat):Int)=Builtin.Range.rangeSize lo hi 1:=by rw [rangeSize_one];split <;> omega
  show IsRangeIter _ _ (lo+((0:Nat):Int)*1) ((((hi-lo).toNat:Nat):Int)-((0:Nat):Int)) 1;rw [e1,e2];exact Heap.get?_push_size _ rfl
 ·have e:b=(s.heap.push { cls:=.type "range",data:=.fields #[.int lo t,.int hi u,.int 1 v] }).objs.size:=by simpa using hb
  subst e;exact I1.fpOk (Nat.le_refl _) (I1.hok.fresh (Nat.le_refl _))
def Op (ta:TA):TI:=fun σ H R=>ta σ H fun vs H1=>∃ j:Int,vs=[.int j]∧-(2 ^ 62)<=j∧j<2 ^ 62∧R (Itr 0 j.toNat) H1
theorem hV {a:Expr}{ta:TA}{p pos:Pos}(hg:Gl X "range")(hm:X.mg "range" = none)(ha:PA X [a] ta)(hs:starEach [a] X.env=[(false,eval a X.env)]:=by rfl):PI X tg (.Call (.Name "range" p) [a] [] pos) (Op ta):=by
 intro pins s σ H R I h;refine Call_ (mS I hg hm boot_range (PyProof.Rows.callWith_type1 (thn (ha pos pins s σ H _ I h) fun us s1 ⟨vs,H1,I1,r1,q1⟩=>?_) hs rfl));obtain ⟨j,e,q1,q2,q⟩:=q1;subst e
 cases r1 with
 | cons r rr =>
  cases rr;obtain ⟨t,rfl⟩:=r;exact call_range_1 (Ep I1 (by omega) (by omega) q1 q2 (by simpa using q))
def Qg (wi:TI)(g:TG)(tb:TS):TS:=fun D σ H=>wi σ H fun J H1=>∃ W:Nat->Nat->St->Hp->Prop,(∃ m,W 0 m σ H1)∧∀ i m σ H,W i m σ H ->
 (J.stop i H∧D.nx σ H)∨(J.go i H∧∃ N:St->Hp->Prop,(∀ σ' H',N σ' H'->∃ m',m'<m∧W (i+1) m' σ' H')∧∀ x H',J.yld i H x H'->g x σ H' fun σ2 H2=>tb { D with nx:=N,ct:=N,bk:=D.nx } σ2 H2)
def kZ (fp:List Addr)(h:Heap):List (Addr×Obj):=fp.filterMap fun b=>(h.get? b).map fun o=>(b,o)
theorem eQ {fp:List Addr}{h:Heap}{b:Addr}{o:Obj}(hb:b∈fp)(e:h.get? b=some o):(b,o)∈kZ fp h:=List.mem_filterMap.mpr ⟨b,hb,by rw [e];rfl⟩
theorem Cu {fp:List Addr}{h:Heap}{p:Addr×Obj}(hp:p∈kZ fp h):p.1∈fp∧h.get? p.1=some p.2:=by
 obtain ⟨b,hb,e⟩:=List.mem_filterMap.mp hp
 cases q:h.get? b with
 | none=>rw [q] at e;cases e
 | some o =>
  rw [q] at e;have e':(b,o)=p:=Option.some.inj e;subst e';exact ⟨hb,q⟩
theorem Inv.pinned {pins:List (Addr×Obj)}{σ:St}{H:Hp}{s:Shared}{fp:List Addr}(I:Inv X pins σ H s)(hf:∀ b∈fp,kU X pins H b)(ho:∀ b∈fp,∃ o,s.heap.get? b=some o∧∀ v,o.data≠.cell v):Inv X (pins++kZ fp s.heap) σ H s :=
 I.pins_of fun p hp=>(List.mem_append.mp hp).elim (fun z=>I.pin p (List.mem_append_right _ z)) fun z=>by
  obtain ⟨hb,e⟩:=Cu z;obtain ⟨f0,f1,f2,_⟩:=hf p.1 hb;obtain ⟨o,e',d⟩:=ho p.1 hb;rw [e] at e';cases e';exact ⟨e,f0,f1,f2,d⟩
theorem Inv.unpinned {pins pl:List (Addr×Obj)}{σ:St}{H:Hp}{s:Shared}(I:Inv X (pins++pl) σ H s):Inv X pins σ H s:=I.pins_of fun p hp=>I.pin p (List.mem_append_right _ (List.mem_append_left _ hp))
theorem cM {iter:Expr}{body:List Stmt}{wi:TI}{g:TG}{tb:TS}{pos:Pos}(hp:PassesOwn (model X.prog X.w) X.A X.env X.xe)(hc:X.calm=true)(hi:PI X tg iter wi)(hg:PG X tg g)(hb:PSs X body tb)
  (hs:∀ x,foldedSetIterable iter X.env x=pure x:=by intro _;rfl):PS X (.For tg iter body [] pos) (Qg wi g tb):=by
 intro pins s σ H D I h;refine wpAny_For (thn (hi pins s σ H _ I h) fun v s1 h1=>thn h1 fun itv s2 h2=>?_) hs;obtain ⟨it,fp,tn,J,H2,e,I2,T,st2,f2,W,⟨m0,w0⟩,turn⟩:=h2;subst e;have stat:∀ {H':Hp},(∀ b∈fp,H' b=none)->∀ b∈fp,kU X pins H' b:=fun hn b hb=>⟨hn b hb,(f2 b hb).2⟩
 refine codeAny_forLoop_any (fun n s'=>∃ i σ' H',Inv X pins σ' H' s'∧tn i s'.heap∧(∀ b∈fp,H' b=none)∧W i n σ' H') ?_ m0 ⟨0,σ,H2,I2,st2,fun b hb=>(f2 b hb).1,w0⟩;rintro n s3 ⟨i,σ3,H3,I3,st3,fr3,w3⟩;rcases turn i n σ3 H3 w3 with ⟨stop,qn⟩ | ⟨go,N,hN,step⟩
 ·refine wpAny_passesOwn hp (thn (T.done X rfl rfl rfl hc i pins s3 σ3 H3 X.xe I3 (stat fr3) st3 stop) fun r s4 ⟨hr,I4⟩=>?_)
  subst hr;exact wpAny_execs_nil ⟨σ3,H3,I4,qn⟩
 ·refine wpAny_passesOwn hp (thn (T.item X rfl rfl rfl hc i pins s3 σ3 H3 X.xe I3 (stat fr3) st3 go) fun r s4 ⟨u,hr,h4⟩=>?_)
  subst hr;refine wpAny_passesOwn hp (thn h4 fun _ s5 ⟨x,H5,I5,r5,y5,st5,fr5⟩=>?_);have I5':=I5.pinned (stat fr5) (T.obj _ _ st5);refine wpAny_passesOwn hp (thn (hg _ s5 σ3 H5 x u _ I5' r5 (step x H5 y5)) fun _ s6 ⟨σ6,H6,I6,q6⟩=>?_);refine wpAny_passesOwn hp (thn (hb _ s6 σ6 H6 _ I6 q6) fun f s7 q7=>?_);have again:∀ {σ7:St} {H7:Hp},Inv X (pins++kZ fp s5.heap) σ7 H7 s7->N σ7 H7->∃ m,m<n∧∃ i σ' H',Inv X pins σ' H' s7∧tn i s7.heap∧(∀ b∈fp,H' b=none)∧W i m σ' H':=fun {σ7 H7} I7 n7=>by
   obtain ⟨m',hm,w7⟩:=hN σ7 H7 n7;refine ⟨m',hm,i+1,σ7,H7,I7.unpinned,T.keep _ _ _ st5 fun b hb o e=>(I7.pin (b,o) (List.mem_append_right _ (List.mem_append_right _ (eQ hb e)))).1,fun b hb=>?_,w7⟩;obtain ⟨o,e,d⟩:=T.obj _ _ st5 b hb;exact (I7.pin (b,o) (List.mem_append_right _ (List.mem_append_right _ (eQ hb e)))).2.1
  cases f with
  | next=>obtain ⟨σ7,H7,I7,n7⟩:=q7;exact again I7 n7
  | cont=>obtain ⟨σ7,H7,I7,n7⟩:=q7;exact again I7 n7
  | brk=>obtain ⟨σ7,H7,I7,q7⟩:=q7;exact ⟨σ7,H7,I7.unpinned,q7⟩
  | ret v=>obtain ⟨x7,σ7,H7,I7,r7,q7⟩:=q7;exact ⟨x7,σ7,H7,I7.unpinned,r7,q7⟩
end
theorem cT {K:PySem.W.Frag}{a:Addr}{xs:List V}{g:TG}{tb:TS}{D:kF}{σ:St}{H:Hp}(Pv:Nat->St->Hp->Prop)(h0:Pv 0 σ H)(hl:∀ i σ H,i<=xs.length->Pv i σ H->SqL K H a xs)
  (hs:∀ i x σ H,xs[i]?=some x->Pv i σ H->g x σ H fun σ2 H2=>tb { D with nx:=Pv (i+1),ct:=Pv (i+1),bk:=D.nx } σ2 H2) (hd:∀ σ H,Pv xs.length σ H->D.nx σ H) :
  ∃ W:Nat->Nat->St->Hp->Prop,(∃ m,W 0 m σ H)∧∀ i m σ H,W i m σ H ->
   ((Itl K a).stop i H∧D.nx σ H)∨((Itl K a).go i H∧∃ N:St->Hp->Prop,(∀ σ' H',N σ' H'->∃ m',m'<m∧W (i+1) m' σ' H')∧∀ x H',(Itl K a).yld i H x H'->g x σ H' fun σ2 H2=>tb { D with nx:=N,ct:=N,bk:=D.nx } σ2 H2):=by
 refine ⟨fun i m σ H=>m=xs.length-i∧i<=xs.length∧Pv i σ H,⟨xs.length,by simp,Nat.zero_le _,h0⟩,?_⟩;rintro i m σ H ⟨rfl,hi,p⟩;have q:=hl i σ H hi p;by_cases hlt:i<xs.length
 ·refine .inr ⟨⟨xs,xs[i],q,by simp [hlt]⟩,Pv (i+1),fun σ' H' p'=>⟨xs.length-(i+1),by omega,rfl,hlt,p'⟩,fun x H' y=>?_⟩
  obtain ⟨e,y⟩:=y;subst e;exact hs i x σ _ (y xs q) p
 ·have e:i=xs.length:=by omega
  subst e;exact .inl ⟨⟨xs,q,Nat.le_refl _⟩,hd σ H p⟩
theorem hZ {lo:Int}{n:Nat}{g:TG}{tb:TS}{D:kF}{σ:St}{H:Hp}(Pv:Nat->St->Hp->Prop)(h0:Pv 0 σ H)
  (hs:∀ i σ H,i<n->Pv i σ H->g (.int (lo+i)) σ H fun σ2 H2=>tb { D with nx:=Pv (i+1),ct:=Pv (i+1),bk:=D.nx } σ2 H2) (hd:∀ σ H,Pv n σ H->D.nx σ H) :
  ∃ W:Nat->Nat->St->Hp->Prop,(∃ m,W 0 m σ H)∧∀ i m σ H,W i m σ H ->
   ((Itr lo n).stop i H∧D.nx σ H)∨((Itr lo n).go i H∧∃ N:St->Hp->Prop,(∀ σ' H',N σ' H'->∃ m',m'<m∧W (i+1) m' σ' H')∧∀ x H',(Itr lo n).yld i H x H'->g x σ H' fun σ2 H2=>tb { D with nx:=N,ct:=N,bk:=D.nx } σ2 H2):=by
 refine ⟨fun i m σ H=>m=n-i∧i<=n∧Pv i σ H,⟨n,by simp,Nat.zero_le _,h0⟩,?_⟩;rintro i m σ H ⟨rfl,hi,p⟩;by_cases hlt:i<n
 ·refine .inr ⟨hlt,Pv (i+1),fun σ' H' p'=>⟨n-(i+1),by omega,rfl,hlt,p'⟩,fun x H' y=>?_⟩
  obtain ⟨e,y⟩:=y;subst e y;exact hs i σ _ hlt p
 ·have e:i=n:=by omega
  subst e;exact .inl ⟨Nat.le_refl _,hd σ H p⟩
abbrev R2:=V->V->Hp->VK->Prop
def OpR (X:Cx)(f:Value->Value->Sem Value)(r:R2):Prop :=
 ∀ (pins:List (Addr×Obj)) (s:Shared) (σ:St) (H:Hp) (x y:V) (v u:Value) (Q:VK),Inv X pins σ H s->bE x v->bE y u->r x y H Q ->
  wpAny (model X.prog X.w) X.A (f v u) (EP X pins σ Q) X.xe s
def UnR (X:Cx)(f:Value->Sem Value)(r:V->Hp->VK->Prop):Prop :=
 ∀ (pins:List (Addr×Obj)) (s:Shared) (σ:St) (H:Hp) (x:V) (v:Value) (Q:VK),Inv X pins σ H s->bE x v->r x H Q ->
  wpAny (model X.prog X.w) X.A (f v) (EP X pins σ Q) X.xe s
def eI (X:Cx)(f:Value)(r:List V->Hp->VK->Prop):Prop :=
 ∀ (pins:List (Addr×Obj)) (s:Shared) (σ:St) (H:Hp) (xs:List V) (us:List Value) (Q:VK),Inv X pins σ H s->bT xs us->r xs H Q ->
  wpAny (model X.prog X.w) X.A (call f us) (EP X pins σ Q) X.xe s
def tOp (r:R2)(ta tb:TE):TE:=fun σ H Q=>ta σ H fun x H1=>tb σ H1 fun y H2=>r x y H2 Q
def tUn (r:V->Hp->VK->Prop)(ta:TE):TE:=fun σ H Q=>ta σ H fun x H1=>r x H1 Q
def rI (C:Int->Int->Prop)(g:Int->Int->V):R2:=fun x y H Q=>∃ i j,x = .int i∧y = .int j∧C i j∧Q (g i j) H
def rI0 (g:Int->Int->V):R2:=fun x y H Q=>∃ i j,x = .int i∧y = .int j∧Q (g i j) H
def rU (g:Int->V):V->Hp->VK->Prop:=fun x H Q=>∃ i,x = .int i∧Q (g i) H
section
variable {X:Cx}{a b c:Expr}{ta tb tc:TE}{pos:Pos}
theorem Ld (ha:PE X a ta)(hb:PE X b tb){pins:List (Addr×Obj)}{s:Shared}{σ:St}{H:Hp}{R:V->V->Hp->Prop}(I:Inv X pins σ H s)
  (h:ta σ H fun x H1=>tb σ H1 fun y H2=>R x y H2) {Q:Value->Shared->Prop} {f:Value->Value->Sem Value}
  (hf:∀ v u s2 x y H2,Inv X pins σ H2 s2->bE x v->bE y u->R x y H2->wpAny (model X.prog X.w) X.A (f v u) Q X.xe s2) :
  wpAny (model X.prog X.w) X.A (eval a X.env) (fun v s₁=>wpAny (model X.prog X.w) X.A (eval b X.env) (fun u s₂=>wpAny (model X.prog X.w) X.A (f v u) Q X.xe s₂) X.xe s₁) X.xe s:=by
 refine thn (ha pins s σ H _ I h) fun v s1 ⟨x,H1,I1,r1,q1⟩=>?_
 refine thn (hb pins s1 σ H1 _ I1 q1) fun u s2 ⟨y,H2,I2,r2,q2⟩=>?_
 exact hf v u s2 x y H2 I2 r1 r2 q2
theorem aL {op:Operator}{r:R2}(ho:OpR X (binaryOp op) r)(ha:PE X a ta)(hb:PE X b tb):PE X (.BinOp a op b pos) (tOp r ta tb):=by
 intro pins s σ H Q I h;exact wpAny_BinOp (Ld ha hb I h fun v u s2 x y H2 I2 rx ry q=>ho pins s2 σ H2 x y v u Q I2 rx ry q)
theorem jF {op:UnaryOp}{r:V->Hp->VK->Prop}(ho:UnR X (unaryOp op) r)(ha:PE X a ta):PE X (.UnaryOp op a pos) (tUn r ta):=by
 intro pins s σ H Q I h;exact UnaryOp_ (thn (ha pins s σ H _ I h) fun v s1 ⟨x,H1,I1,r1,q1⟩=>ho pins s1 σ H1 x v Q I1 r1 q1)
theorem opI {f:Value->Value->Sem Value}{C:Int->Int->Prop}{g:Int->Int->Int}
  (rule:∀ (i j:Int) (t u:Tok) (s:Shared) (Q:Value->Shared->Prop) (E:Value->Shared->Prop),C i j->Q (.int (g i j) s.toks) { s with toks:=s.toks+1 }->wpAny (model X.prog X.w) X.A (f (.int i t) (.int j u)) Q E s) :
  OpR X f (rI C fun i j=>.int (g i j)):=by
 intro pins s σ H x y v u Q I rx ry h;obtain ⟨i,j,rfl,rfl,hc,q⟩:=h;obtain ⟨t,rfl⟩:=rx;obtain ⟨t',rfl⟩:=ry;exact rule i j t t' s _ _ hc ⟨.int (g i j),H,I.tok _,⟨_,rfl⟩,q⟩
theorem Nu {f:Value->Value->Sem Value}{g:Int->Int->Int}
  (rule:∀ (i j:Int) (t u:Tok) (s:Shared) (Q:Value->Shared->Prop) (E:Value->Shared->Prop),Q (.int (g i j) s.toks) { s with toks:=s.toks+1 }->wpAny (model X.prog X.w) X.A (f (.int i t) (.int j u)) Q E s) :
  OpR X f (rI0 fun i j=>.int (g i j)):=by
 intro pins s σ H x y v u Q I rx ry h;obtain ⟨i,j,rfl,rfl,q⟩:=h;obtain ⟨t,rfl⟩:=rx;obtain ⟨t',rfl⟩:=ry;exact rule i j t t' s _ _ ⟨.int (g i j),H,I.tok _,⟨_,rfl⟩,q⟩
theorem Je {f:Value->Value->Sem Value}{g:Int->Int->Bool}
  (rule:∀ (i j:Int) (t u:Tok) (s:Shared) (Q:Value->Shared->Prop) (E:Value->Shared->Prop),Q (.bool (g i j)) s->wpAny (model X.prog X.w) X.A (f (.int i t) (.int j u)) Q E s) :
  OpR X f (rI0 fun i j=>.bl (g i j)):=by
 intro pins s σ H x y v u Q I rx ry h;obtain ⟨i,j,rfl,rfl,q⟩:=h;obtain ⟨t,rfl⟩:=rx;obtain ⟨t',rfl⟩:=ry;exact rule i j t t' s _ _ ⟨.bl (g i j),H,I,rfl,q⟩
def Pu (i j:Int):Prop:=0<j∧j<1073741824
def Qe (i j:Int):Prop:=0<=j∧j<=1000000∧i.natAbs<2 ^ 64
def Lx (i j:Int):Prop:=(-(2 ^ 64)<i∧i<2 ^ 64)∨(-(2 ^ 64)<j∧j<2 ^ 64)
theorem Lx.ok {i j:Int}(h:Lx i j):IntMulOk i j:=by
 rcases h with ⟨h1,h2⟩ | ⟨h1,h2⟩
 ·exact .of_left (intBits_le_64 h1 h2)
 ·exact .of_right (intBits_le_64 h1 h2)
theorem dE:OpR X (binaryOp .Add) (rI0 fun i j=>.int (i+j)):=Nu fun _ _ _ _ _ _ _ q=>add_int q
theorem gO:OpR X (binaryOp .Sub) (rI0 fun i j=>.int (i-j)):=Nu fun _ _ _ _ _ _ _ q=>sub_int q
theorem nH:OpR X (binaryOp .Mult) (rI Lx fun i j=>.int (i*j)):=opI fun _ _ _ _ _ _ _ hc q=>mul_int q hc.ok
theorem hJ:OpR X (binaryOp .FloorDiv) (rI Pu fun i j=>.int (i/j)):=opI fun i j _ _ _ _ _ hc q=>by
 have h1:(0:Int)<j:=hc.1;have h2:j<1073741824:=hc.2;exact floordiv_int (by omega) (by rw [Int.fdiv_eq_ediv_of_nonneg i (by omega)];exact q) (.inl (PyProof.noPylong_small (by omega)))
theorem cQ:OpR X (binaryOp .Mod) (rI (fun _ j=>0<j) fun i j=>.int (i % j)):=opI fun i j _ _ _ _ _ hc q=>by
 have h1:(0:Int)<j:=hc;exact mod_int' (by omega) (by rw [Int.fmod_eq_emod_of_nonneg i (by omega)];exact q)
theorem Lj:OpR X (binaryOp .Pow) (rI Qe fun i j=>.int (i ^ j.toNat)):=opI fun _ _ _ _ _ _ _ hc q=>pow_int_small hc.1 hc.2.1 hc.2.2 q
theorem unI {f:Value->Sem Value}{g:Int->Int}
  (rule:∀ (i:Int) (t:Tok) (s:Shared) (Q:Value->Shared->Prop) (E:Value->Shared->Prop),Q (.int (g i) s.toks) { s with toks:=s.toks+1 }->wpAny (model X.prog X.w) X.A (f (.int i t)) Q E s) :
  UnR X f (rU fun i=>.int (g i)):=by
 intro pins s σ H x v Q I rx h;obtain ⟨i,rfl,q⟩:=h;obtain ⟨t,rfl⟩:=rx;exact rule i t s _ _ ⟨.int (g i),H,I.tok _,⟨_,rfl⟩,q⟩
theorem gQ:UnR X (unaryOp .USub) (rU fun i=>.int (-i)):=unI fun _ _ _ _ _ q=>neg_int q
end
def Pa:V->V->Bool
 | .non,.non=>true | .non,.int _=>true | .int _,.non=>true | .non,.bl _=>true | .bl _,.non=>true | .non,.str _=>true | .str _,.non=>true
 | .int _,.int _=>true | .bl _,.bl _=>true | .str _,.str _=>true | .byt _,.byt _=>true
 | .int _,.str _=>true | .str _,.int _=>true | .bl _,.str _=>true | .str _,.bl _=>true
 | _,_=>false
def rEq:R2:=fun x y H Q=>Pa x y=true∧Q (.bl (decide (x=y))) H
def rNe:R2:=fun x y H Q=>Pa x y=true∧Q (.bl (!decide (x=y))) H
theorem oP {i j:Int}:decide (V.int i=V.int j)=(i==j):=by
 rw [Bool.eq_iff_iff];simp
theorem Ed {i j:Bool}:decide (V.bl i=V.bl j)=(i==j):=by
 rw [Bool.eq_iff_iff];simp
theorem Ap {i j:Str}:decide (V.str i=V.str j)=(i==j):=by
 rw [Bool.eq_iff_iff];simp
theorem Bk {i j:Array UInt8}:decide (V.byt i=V.byt j)=(i.toList==j.toList):=by
 rw [Bool.eq_iff_iff];cases i;cases j;simp
section
variable {X:Cx}{a b c:Expr}{ta tb tc:TE}{pos:Pos}
theorem bV {pins:List (Addr×Obj)}{σ:St}{H:Hp}{s:Shared}{Q:VK}{k k':Bool}(I:Inv X pins σ H s)(q:Q (.bl k) H)(e:k=k'):EP X pins σ Q (.bool k') s:=by
 subst e;exact ⟨.bl k,H,I,rfl,q⟩
theorem Ks:OpR X (compareOp .Eq) rEq:=by
 intro pins s σ H x y v u Q I rx ry h;obtain ⟨hs,q⟩:=h
 cases x with
 | non =>
  cases rx
  cases y with
  | non=>cases ry;exact PySem.EqNone.eq_none_none (bV I q (by simp))
  | bl j=>cases ry;exact PySem.EqNone.eq_none_bool (bV I q (by simp))
  | int j=>obtain ⟨t',rfl⟩:=ry;exact PySem.EqNone.eq_none_int (bV I q (by simp))
  | str j=>obtain ⟨t',rfl⟩:=ry;exact PySem.EqNone.eq_none_str (bV I q (by simp))
  | _=>exact absurd (show false=true from hs) Bool.false_ne_true
 | bl i =>
  cases rx
  cases y with
  | non=>cases ry;exact PySem.EqNone.eq_bool_none (bV I q (by simp))
  | bl j=>cases ry;exact eq_bool (bV I q Ed)
  | str j=>obtain ⟨t',rfl⟩:=ry;exact PySem.EqMixed.eq_bool_str (bV I q (by simp))
  | _=>exact absurd (show false=true from hs) Bool.false_ne_true
 | int i =>
  obtain ⟨t,rfl⟩:=rx
  cases y with
  | non=>cases ry;exact PySem.EqNone.eq_int_none (bV I q (by simp))
  | int j=>obtain ⟨t',rfl⟩:=ry;exact eq_int (bV I q oP)
  | str j=>obtain ⟨t',rfl⟩:=ry;exact PySem.EqMixed.eq_int_str (bV I q (by simp))
  | _=>exact absurd (show false=true from hs) Bool.false_ne_true
 | str i =>
  obtain ⟨t,rfl⟩:=rx
  cases y with
  | non=>cases ry;exact PySem.EqNone.eq_str_none (bV I q (by simp))
  | bl j=>cases ry;exact PySem.EqMixed.eq_str_bool (bV I q (by simp))
  | int j=>obtain ⟨t',rfl⟩:=ry;exact PySem.EqMixed.eq_str_int (bV I q (by simp))
  | str j=>obtain ⟨t',rfl⟩:=ry;exact eq_str (bV I q Ap)
  | _=>exact absurd (show false=true from hs) Bool.false_ne_true
 | byt i =>
  obtain ⟨t,rfl⟩:=rx
  cases y with
  | byt j=>obtain ⟨t',rfl⟩:=ry;exact PySem.W.eq_bytes (bV I q Bk)
  | _=>exact absurd (show false=true from hs) Bool.false_ne_true
 | _=>cases y <;> exact absurd (show false=true from hs) Bool.false_ne_true
theorem Kw:OpR X (compareOp .NotEq) rNe:=by
 intro pins s σ H x y v u Q I rx ry h;obtain ⟨hs,q⟩:=h
 cases x with
 | non =>
  cases rx
  cases y with
  | non=>cases ry;exact PySem.EqNone.ne_none_none (bV I q (by simp))
  | bl j=>cases ry;exact PySem.EqNone.ne_none_bool (bV I q (by simp))
  | int j=>obtain ⟨t',rfl⟩:=ry;exact PySem.EqNone.ne_none_int (bV I q (by simp))
  | str j=>obtain ⟨t',rfl⟩:=ry;exact PySem.EqNone.ne_none_str (bV I q (by simp))
  | _=>exact absurd (show false=true from hs) Bool.false_ne_true
 | bl i =>
  cases rx
  cases y with
  | non=>cases ry;exact PySem.EqNone.ne_bool_none (bV I q (by simp))
  | bl j=>cases ry;exact ne_bool (bV I q (congrArg not Ed))
  | str j=>obtain ⟨t',rfl⟩:=ry;exact PySem.EqMixed.ne_bool_str (bV I q (by simp))
  | _=>exact absurd (show false=true from hs) Bool.false_ne_true
 | int i =>
  obtain ⟨t,rfl⟩:=rx
  cases y with
  | non=>cases ry;exact PySem.EqNone.ne_int_none (bV I q (by simp))
  | int j=>obtain ⟨t',rfl⟩:=ry;exact ne_int (bV I q (congrArg not oP))
  | str j=>obtain ⟨t',rfl⟩:=ry;exact PySem.EqMixed.ne_int_str (bV I q (by simp))
  | _=>exact absurd (show false=true from hs) Bool.false_ne_true
 | str i =>
  obtain ⟨t,rfl⟩:=rx
  cases y with
  | non=>cases ry;exact PySem.EqNone.ne_str_none (bV I q (by simp))
  | bl j=>cases ry;exact PySem.EqMixed.ne_str_bool (bV I q (by simp))
  | int j=>obtain ⟨t',rfl⟩:=ry;exact PySem.EqMixed.ne_str_int (bV I q (by simp))
  | str j=>obtain ⟨t',rfl⟩:=ry;exact ne_str (bV I q (congrArg not Ap))
  | _=>exact absurd (show false=true from hs) Bool.false_ne_true
 | byt i =>
  obtain ⟨t,rfl⟩:=rx
  cases y with
  | byt j=>obtain ⟨t',rfl⟩:=ry;exact PySem.W.ne_bytes (bV I q (congrArg not Bk))
  | _=>exact absurd (show false=true from hs) Bool.false_ne_true
 | _=>cases y <;> exact absurd (show false=true from hs) Bool.false_ne_true
theorem qW:OpR X (compareOp .Lt) (rI0 fun i j=>.bl (decide (i<j))):=Je fun _ _ _ _ _ _ _ q=>lt_int q
theorem Ox:OpR X (compareOp .LtE) (rI0 fun i j=>.bl (decide (i<=j))):=Je fun _ _ _ _ _ _ _ q=>le_int q
theorem nJ:OpR X (compareOp .Gt) (rI0 fun i j=>.bl (decide (j<i))):=Je fun _ _ _ _ _ _ _ q=>gt_int q
theorem Pk:OpR X (compareOp .GtE) (rI0 fun i j=>.bl (decide (j<=i))):=Je fun _ _ _ _ _ _ _ q=>ge_int q
theorem Cq:OpR X (compareOp .Lt) (fun x y H Q=>∃ i j,x = .str i∧y = .str j∧Q (.bl (decide (i.cps.toList<j.cps.toList))) H):=by
 intro pins s σ H x y v u Q I rx ry h;obtain ⟨i,j,rfl,rfl,q⟩:=h;obtain ⟨t,rfl⟩:=rx;obtain ⟨t',rfl⟩:=ry;exact lt_str (bV I q rfl)
theorem tZ:OpR X (compareOp .NotIn) (fun x y H Q=>∃ i j,x = .str i∧y = .str j∧Q (.bl (!(!(Builtin.Str.occurrences j i 0 j.length 1).isEmpty))) H):=by
 intro pins s σ H x y v u Q I rx ry h;obtain ⟨i,j,rfl,rfl,q⟩:=h;obtain ⟨t,rfl⟩:=rx;obtain ⟨t',rfl⟩:=ry;exact notIn_str (bV I q rfl)
theorem aZ (b:Expr){op:CmpOp}(h:op≠.In:=by decide)(h2:op≠.NotIn:=by decide):behindInMarks op b=false:=by
 have e1:(op==CmpOp.In)=false:=by cases op <;> first | rfl | exact absurd rfl h
 have e2:(op==CmpOp.NotIn)=false:=by cases op <;> first | rfl | exact absurd rfl h2
 cases b <;> simp [behindInMarks,e1,e2]
theorem oS {op:CmpOp}{r:R2}(ho:OpR X (compareOp op) r)(ha:PE X a ta)(hb:PE X b tb)(hm:behindInMarks op b=false):PE X (.Compare a [op] [b] pos) (tOp r ta tb):=by
 intro pins s σ H Q I h;exact wpAny_Compare1 (Ld ha hb I h fun v u s2 x y H2 I2 rx ry q=>ho pins s2 σ H2 x y v u Q I2 rx ry q) hm
def Pn (t:TE):TT:=fun σ H Q=>t σ H fun x H'=>∃ k,x = .bl k∧Q k H'
theorem aO {op:CmpOp}{r:R2}(ho:OpR X (compareOp op) r)(ha:PE X a ta)(hb:PE X b tb)(hm:behindInMarks op b=false):PT X (.Compare a [op] [b] pos) (Pn (tOp r ta tb)):=by
 intro pins s σ H Q I h;refine wpAny_isTrue_Compare1 (thn (ha pins s σ H _ I h) fun v s1 ⟨x,H1,I1,r1,q1⟩=>thn (hb pins s1 σ H1 _ I1 q1) fun u s2 ⟨y,H2,I2,r2,q2⟩ =>
  thn (ho pins s2 σ H2 x y v u _ I2 r1 r2 q2) fun c s3 ⟨z,H3,I3,r3,k,e,q3⟩=>?_) hm
 subst e;cases r3;exact wpAny_truthy_bool ⟨H3,I3,q3⟩
theorem pJ:(sizeLine:Nat)<2 ^ 63:=by rw [sizeLine_eq];decide
theorem yT:OpR X (binaryOp .Add) (fun x y H Q=>∃ i j,x = .str i∧y = .str j∧i.length+j.length<=sizeLine∧Q (.str (i++j)) H):=by
 intro pins s σ H x y v u Q I rx ry h;obtain ⟨i,j,rfl,rfl,hz,q⟩:=h;obtain ⟨t,rfl⟩:=rx;obtain ⟨t',rfl⟩:=ry;exact add_str (fun t' tk=>⟨.str (i++j),H,I.tok _,⟨_,rfl⟩,q⟩) hz
theorem fU {x:V}{us:List Value}(r:bT [x] us):∃ u,us=[u]∧bE x u:=by
 cases r with
 | cons r1 r2=>cases r2;exact ⟨_,rfl,r1⟩
theorem Nk {x y:V}{us:List Value}(r:bT [x,y] us):∃ u w',us=[u,w']∧bE x u∧bE y w':=by
 cases r with
 | cons r1 r2 =>
  cases r2 with
  | cons r3 r4=>cases r4;exact ⟨_,_,rfl,r1,r3⟩
theorem Fv:eI X (.builtin "abs") (fun xs H Q=>∃ i,xs=[.int i]∧Q (.int (if i<0 then -i else i)) H):=by
 intro pins s σ H xs us Q I r h;obtain ⟨i,rfl,q⟩:=h;obtain ⟨u,rfl,t,rfl⟩:=fU r;exact call_abs_int fun u tk=>⟨.int (if i<0 then -i else i),H,I.tok _,⟨_,rfl⟩,q⟩
end
set_option genInjectivity false in
structure Dl (h:Heap)(x dx C:Addr)(mA:Str->Option Value):Prop where
 obj:h.get? x=some (PySem.W.instObj C dx)
 ns:h.Ns1 dx mA
 ne:dx≠x
theorem Bs {h:Heap}{dx:Addr}{mA:Str->Option Value}(n:h.Ns1 dx mA):∃ od,h.get? dx=some od∧∀ name,PySem.W.lookIn name od=some (mA name):=by
 obtain ⟨o,es,ep,ho,hd,hk,_,hm⟩:=n;refine ⟨o,ho,fun name=>?_⟩;have e:=hm name;unfold nsFind findBy at e;rw [<- Array.find?_toList] at e;unfold PySem.W.lookIn;rw [hd]
 dsimp only
 split
 ·rename_i y q
  rw [q] at e;exact congrArg some e
 ·rename_i q
  rw [q] at e;have a:es.toList.any (·.refKey)=false:=by
   rw [List.any_eq_false];intro y hy;obtain ⟨z,t,hkey⟩:=hk y (Array.mem_toList_iff.mp hy);simp [DictEntry.refKey,hkey]
  have a':¬ es.toList.any (·.refKey)=true:=by rw [a];exact Bool.false_ne_true
  rw [if_neg a'];exact congrArg some e
theorem Dl.look {h:Heap}{x dx C:Addr}{mA:Str->Option Value}(I:Dl h x dx C mA):∃ od,PySem.W.InstAt h x (PySem.W.instObj C dx) C (some od)∧∀ name,PySem.W.lookIn name od=some (mA name) :=
 let ⟨od,ho,hl⟩:=Bs I.ns
 ⟨od,⟨I.obj,rfl,rfl,ho⟩,hl⟩
section
variable {prog:Program}{w:World}{A:Around}{E:Value->Shared->Prop}{s:Shared}{K:PySem.W.Frag}{x dx C f:Addr}{mA:Str->Option Value}{name:Str}{v:Value}
theorem Ik {expr:Bool}{Q:Value->Shared->Prop}(X:K.In s.heap)(I:Dl s.heap x dx C mA)(hg:PySem.W.plainGet K C name=true)(hh:PySem.W.hasDictIn K C=true)
  (ha:PySem.W.findIn K (.ref C) name=some none) (hv:mA name=some v) (hv':PySem.W.handedIn v=true) (h:Q v { s with toks:=s.toks+1 }) :
  wpAny (model prog w) A (getAttr (.ref x) name expr) Q E s:=by
 obtain ⟨od,J,hl⟩:=I.look;exact PySem.W.get_value X J (PySem.W.plainGet_of hg).1 (PySem.W.findObj_own hh ha rfl (by rw [hl,hv])) hv' h
theorem Jz {ns:List Str}{Q:Unit->Shared->Prop}(X:K.In s.heap)(I:Dl s.heap x dx C mA)
  (hs:PySem.W.findIn K (.ref C) "__setattr__" = some (some (.builtin "object.__setattr__"))) (hp:PySem.W.plainOver K C=true) (ht:PySem.W.takerIn K C name=some none) (hh:PySem.W.hasDictIn K C=true)
  (hw:PySem.Within mA ns) (hsz:ns.length<=sizeLine)
  (h:∀ h',Dl h' x dx C (fun y=>if y=name then some v else mA y)->Heap.SameBut dx s.heap h'->Q () { s with heap:=h',toks:=s.toks+2 }) :
  wpAny (model prog w) A (setAttr (.ref x) name v) Q E s:=by
 obtain ⟨od,J,hl⟩:=I.look;refine PySem.W.set_plain X J hs (PySem.W.osa_open (s:={ s with toks:=s.toks+1 }) (r:=none) X J hp ht fun b=>?_);obtain ⟨cd,hc,hd'⟩:=PySem.W.any_some hh;have hx:s.heap.get? x=some ⟨.ref C,some dx,.plain,#[]⟩:=I.obj;refine wpAny_bind (wpAny_pure (wpAny_bind (wpAny_bind (wpAny_loadPart hx (wpAny_bind (PySem.W.Looks.here (s:={ s with toks:=s.toks+1 }) (PySem.W.looks_clsIn X hc) ?_))))));rw [hd'];refine wpAny_pure (a:=some dx) (wpAny_bind (wpAny_pure (wpAny_bind ?_)));refine wpAny_nsSet1 (s:={ s with toks:=s.toks+1 }) I.ns fun h' hn2 hs2=>?_
 obtain ⟨oD,esD,epD,hoD,hdD,hcD⟩:=hn2.count (PySem.Within.cons name v hw);refine wpAny_bind (wpAny_lookBehind hoD (by rw [hdD];exact pastItsLine_dict (Nat.le_trans hcD (by rw [List.length_cons];omega))) ?_);exact wpAny_pure (h _ ⟨(hs2.2 _ (Ne.symm I.ne)).trans I.obj,hn2,I.ne⟩ hs2)
theorem Fk {R:Result->Shared->Prop}{vs:List Value}{kw:List (Str×Value)}(X:K.In s.heap)(hm:PySem.W.makesIn K C=true)
  (hi:PySem.W.findIn K (.ref C) "__init__" = some (some (.ref f))) (hf:PySem.W.typeIn K (.ref f)=some (.type "function"))
  (h:codeAny (model prog w) (A.under (.builtin "type.__call__" ⟨.ref C::vs,kw⟩)) (.call (.ref f) ⟨.ref (s.heap.objs.size+1)::vs,kw⟩) (PySem.W.InitBack (s.heap.objs.size+1) R)
   { s with heap:=(s.heap.push PySem.W.emptyDict).push (PySem.W.instObj C s.heap.objs.size) }) :
  codeAny (model prog w) A (.call (.ref C) ⟨vs,kw⟩) R s:=by
 obtain ⟨hh,g,d,t,os⟩:=s;exact PySem.W.make_core (PySem.W.makes_of X hm) (PySem.W.looks_findIn X hi) (fun self=>PySem.W.bind_fn X self hf) (.inl rfl) h
end
def iX (f:Str)(v:V):List (Str×V)->List (Str×V)
 | []=>[(f,v)]
 | (g,x)::r=>if g=f then (g,v)::r else (g,x)::iX f v r
theorem hG (f g:Str)(v:V):∀ fs:List (Str×V),(iX f v fs).lookup g=if g=f then some v else fs.lookup g
 | []=>by
  show List.lookup g [(f,v)]=_;by_cases h:g=f
  ·have hb:(g==f)=true:=beq_iff_eq.mpr h
   simp only [List.lookup,hb,if_pos h]
  ·have hb:(g==f)=false:=beq_eq_false_iff_ne.mpr h
   simp only [List.lookup,hb,if_neg h]
 | (k,x)::r=>by
  have ih:=hG f g v r;rw [show iX f v ((k,x)::r)=(if k=f then (k,v)::r else (k,x)::iX f v r) from rfl];by_cases hk:k=f
  ·rw [if_pos hk]
   by_cases h:g=k
   ·have hb:(g==k)=true:=beq_iff_eq.mpr h
    simp only [List.lookup,hb,if_pos (h.trans hk)]
   ·have hb:(g==k)=false:=beq_eq_false_iff_ne.mpr h
    simp only [List.lookup,hb,if_neg (fun e:g=f=>h (e.trans hk.symm))]
  ·rw [if_neg hk]
   by_cases h:g=k
   ·have hb:(g==k)=true:=beq_iff_eq.mpr h
    simp only [List.lookup,hb,if_neg (fun e:g=f=>hk (h.symm.trans e))]
   ·have hb:(g==k)=false:=beq_eq_false_iff_ne.mpr h
    simp only [List.lookup,hb];exact ih
theorem mP (f:Str)(v:V):∀ fs:List (Str×V),f∈(iX f v fs).map (·.1)∧∀ g,g∈fs.map (·.1)->g∈(iX f v fs).map (·.1)
 | []=>⟨by simp [iX],fun g h=>by simp at h⟩
 | (k,x)::r=>by
  obtain ⟨i1,i2⟩:=mP f v r;rw [show iX f v ((k,x)::r)=(if k=f then (k,v)::r else (k,x)::iX f v r) from rfl];by_cases hk:k=f
  ·rw [if_pos hk]
   subst hk;exact ⟨by simp,fun g h=>by simpa using h⟩
  ·rw [if_neg hk]
   refine ⟨?_,fun g h=>?_⟩
   ·rw [List.map_cons]
    exact List.mem_cons_of_mem _ i1
   ·rw [List.map_cons] at h ⊢
    rcases List.mem_cons.mp h with e | e
    ·exact List.mem_cons.mpr (.inl e)
    ·exact List.mem_cons_of_mem _ (i2 g e)
theorem nN (f:Str)(v:V):∀ fs:List (Str×V),(iX f v fs).length<=fs.length+1
 | []=>by simp [iX]
 | (k,x)::r=>by
  have ih:=nN f v r;rw [show iX f v ((k,x)::r)=(if k=f then (k,v)::r else (k,x)::iX f v r) from rfl];by_cases hk:k=f
  ·rw [if_pos hk,List.length_cons,List.length_cons];omega
  ·rw [if_neg hk,List.length_cons,List.length_cons];omega
theorem iF.some_of {v:V}{o:Option Value}(r:iF (some v) o):∃ u,o=some u∧bE v u:=by
 cases o with
 | none=>exact (show False from r).elim
 | some u=>exact ⟨u,rfl,r⟩
theorem iF.none_of {o:Option Value}(r:iF none o):o=none:=by
 cases o with
 | none=>rfl
 | some u=>exact (show False from r).elim
theorem Db {v:V}{u:Value}(r:bE v u):PySem.W.handedIn u=true:=by
 cases v with
 | non=>cases (show u=Value.none from r);rfl
 | bl b=>cases (show u=Value.bool b from r);rfl
 | int i=>obtain ⟨t,e⟩:=(show ∃ t,u=Value.int i t from r);cases e;rfl
 | str x=>obtain ⟨t,e⟩:=(show ∃ t,u=Value.str x t from r);cases e;rfl
 | byt b=>obtain ⟨t,e⟩:=(show ∃ t,u=Value.bytes b t from r);cases e;rfl
 | flt b=>obtain ⟨t,e⟩:=(show ∃ t,u=Value.float b t from r);cases e;rfl
 | ref a=>cases (show u=Value.ref a from r);rfl
 | ty n=>cases (show u=Value.type n from r);rfl
section
variable {P:Program}{w:World}{H H':Hp}{h h':Heap}{a C dx:Addr}{fs fs':List (Str×V)}
theorem vA (hok:HOk P w H h)(e:H a=some (.ins C dx fs)):∃ mA,Dl h a dx C mA∧(∀ f,iF (fs.lookup f) (mA f))∧PySem.Within mA (fs.map (·.1))∧fs.length<=1000∧H dx=some (.own a):=by
 obtain ⟨d,z,ne,ob,mA,n,r,q⟩:=(show cG P w H h a (.ins C dx fs) from hok a _ e);exact ⟨mA,⟨ob,n,ne⟩,r,q,z,d⟩
end
set_option genInjectivity false in
structure Cls (K:PySem.W.Frag)(C:Addr):Prop where
 pg:PySem.W.plainGet K C Str.empty=true
 hd:PySem.W.hasDictIn K C=true
 po:PySem.W.plainOver K C=true
 sa:PySem.W.findIn K (.ref C) "__setattr__" = some (some (.builtin "object.__setattr__"))
theorem Cls.get {K:PySem.W.Frag}{C:Addr}(c:Cls K C)(f:Str):PySem.W.plainGet K C f=true:=c.pg
def jK (K:PySem.W.Frag)(C:Addr)(f:Str):Prop:=PySem.W.findIn K (.ref C) f=some none
theorem jK.taker {K:PySem.W.Frag}{C:Addr}{f:Str}(n:jK K C f):PySem.W.takerIn K C f=some none:=by
 unfold PySem.W.takerIn;rw [show PySem.W.findIn K (.ref C) f=some none from n];rfl
section
variable {X:Cx}{pins:List (Addr×Obj)}{σ:St}{H:Hp}{s:Shared}{a C dx:Addr}{fs:List (Str×V)}{f:Str}{v:V}{A:Around}{E:Value->Shared->Prop}
theorem zT {b:Bool}{Q:Value->Shared->Prop}(I:Inv X pins σ H s)(e:H a=some (.ins C dx fs))(c:Cls X.K C)(n:jK X.K C f)(l:fs.lookup f=some v)
  (h:∀ u s',Inv X pins σ H s'->bE v u->Q u s'):wpAny (model X.prog X.w) A (getAttr (.ref a) f b) Q E s:=by
 obtain ⟨mA,O,r,_,_,_⟩:=vA I.hok e;obtain ⟨u,hu,ru⟩:=iF.some_of (v:=v) (o:=mA f) (by rw [<- l];exact r f);exact Ik I.kIn O (c.get f) c.hd n hu (Db ru) (h u _ (I.tok _) ru)
theorem zN {y:V}{u:Value}{Q:Unit->Shared->Prop}(I:Inv X pins σ H s)(e:H a=some (.ins C dx fs))(c:Cls X.K C)(n:jK X.K C f)(hl:fs.length<1000)(ry:bE y u)
  (h:∀ s',Inv X pins σ (upd H a (.ins C dx (iX f y fs))) s'->Q () s'):wpAny (model X.prog X.w) A (setAttr (.ref a) f u) Q E s:=by
 obtain ⟨mA,O,r,wi,_,ho⟩:=vA I.hok e;have hz:(fs.map (·.1)).length<=sizeLine:=by rw [List.length_map,sizeLine_eq];omega
 refine Jz I.kIn O c.sa c.po n.taker c.hd wi hz fun h' O' sb=>h _ ?_
 have hd:∃ o,h'.get? dx=some o:=let ⟨o,_,_,e',_⟩:=O'.ns;⟨o,e'⟩
 refine I.write (x:=a) (e:=dx) (by rw [e];exact True.intro) (.inr ho) (fun b q hb z=>(sb.2 b hb).trans z) hd ?_;refine ⟨by rw [aH O.ne];exact ho,?_,O.ne,O'.obj,_,O'.ns,fun g=>?_,fun g hg=>?_⟩
 ·have:=nN f y fs;omega
 ·show iF ((iX f y fs).lookup g) (if g=f then some u else mA g)
  rw [hG];by_cases q:g=f
  ·rw [if_pos q,if_pos q];exact ry
  ·rw [if_neg q,if_neg q];exact r g
 ·by_cases q:g=f
  ·rw [q];exact (mP f y fs).1
  ·refine (mP f y fs).2 g (wi g fun z=>hg ?_)
   show (if g=f then some u else mA g)=none;rw [if_neg q];exact z
theorem Inv.made (I:Inv X pins σ H s):Inv X pins σ (upd (upd H s.heap.objs.size (.own (s.heap.objs.size+1))) (s.heap.objs.size+1) (.ins C s.heap.objs.size []))
  { s with heap:=(s.heap.push PySem.W.emptyDict).push (PySem.W.instObj C s.heap.objs.size) }:=by
 have e1:(s.heap.push PySem.W.emptyDict).get? s.heap.objs.size=some PySem.W.emptyDict:=Heap.get?_push_size s.heap rfl;have e2:((s.heap.push PySem.W.emptyDict).push (PySem.W.instObj C s.heap.objs.size)).get? (s.heap.objs.size+1)=some (PySem.W.instObj C s.heap.objs.size):=by
  have:=Heap.get?_push_size (s.heap.push PySem.W.emptyDict) (o:=PySem.W.instObj C s.heap.objs.size) rfl
  rwa [Heap.size_push] at this
 have e3:(s.heap.push PySem.W.emptyDict).Ns s.heap.objs.size (fun _=>none):=⟨PySem.W.emptyDict,#[],_,e1,rfl,(fun e he=>absurd he (by simp)),fun _=>rfl⟩;have I1:=I.laid (a:=s.heap.objs.size) (o:=.own (s.heap.objs.size+1)) (h':=s.heap.push PySem.W.emptyDict) (t':=s.toks) (fun b u q=>Heap.get?_push_of_some _ q) (Nat.le_refl _) ⟨_,e1⟩;refine I1.laid (a:=s.heap.objs.size+1) (o:=.ins C s.heap.objs.size []) (t':=s.toks) (fun b u q=>Heap.get?_push_of_some _ q) (Nat.le_of_eq (Heap.size_push _ _)) ?_;have ne:s.heap.objs.size≠s.heap.objs.size+1:=Nat.ne_of_lt (Nat.lt_succ_self _);refine ⟨by rw [aH ne,aC],Nat.zero_le _,ne,e2,fun _=>none,(Heap.Ns1.of_empty e3).at fun o q=>Heap.get?_push_of_some _ q,fun _=>True.intro,fun y hy=>absurd rfl hy⟩
theorem Jh {prog:Program}{w:World}{env:Env}{e:Expr}{f:Str}{pos:Pos}{s:Shared}{Q:Value->Shared->Prop}(hb:attributeBase e f env (eval e env)=eval e env)
  (h:wpAny (model prog w) A (eval e env) (fun o s₁=>wpAny (model prog w) A (getAttr o f true) Q E s₁) E s):wpAny (model prog w) A (eval (.Attribute e f pos) env) Q E s :=
 Attribute_any_ h (by rw [arm_eval_Attribute,hb])
end
def Om (K:PySem.W.Frag)(ta:TE)(f:Str):TE:=fun σ H Q=>ta σ H fun x H1=>∃ a C dx fs v,x = .ref a∧H1 a=some (.ins C dx fs)∧Cls K C∧jK K C f∧fs.lookup f=some v∧Q v H1
def Pr (K:PySem.W.Frag)(ta tv:TE)(f:Str):TS:=fun D σ H=>tv σ H fun y H1=>ta σ H1 fun x H2=>∃ a C dx fs,x = .ref a∧H2 a=some (.ins C dx fs)∧Cls K C∧jK K C f∧fs.length<1000 ∧
 D.nx σ (upd H2 a (.ins C dx (iX f y fs)))
section
variable {X:Cx}{o e value:Expr}{f:Str}{pos pos' tpos:Pos}{ta tv:TE}
theorem uH (he:PE X e ta)(hb:attributeBase e f X.env (eval e X.env)=eval e X.env):PE X (.Attribute e f pos) (Om X.K ta f):=by
 intro pins s σ H Q I h;refine Jh hb (thn (he pins s σ H _ I h) fun u s1 ⟨x,H1,I1,rx,a,C,dx,fs,v,ex,ea,c,n,l,q⟩=>?_);subst ex;obtain rfl:u=Value.ref a:=rx;exact zT I1 ea c n l fun u' s2 I2 ru=>⟨v,H1,I2,ru,q⟩
theorem Fs (ha:PE X o ta)(hv:PE X value tv)(hs:swapsWith value (some (.Attribute o f pos')) pos.line X.env=pure false):PS X (.Assign [.Attribute o f pos'] value pos) (Pr X.K ta tv f):=by
 intro pins s σ H D I h;refine plainObj_wpAny_Assign_Attribute (thn (hv pins s σ H _ I h) fun u s1 ⟨y,H1,I1,ry,q⟩=>thn (ha pins s1 σ H1 _ I1 q) fun ov s2 ⟨x,H2,I2,rx,a,C,dx,fs,ex,ea,c,n,l,q2⟩=>?_) hs;subst ex;obtain rfl:ov=Value.ref a:=rx;exact zN I2 ea c n l ry fun s3 I3=>⟨σ,_,I3,q2⟩
end
section
variable {X:Cx}{pins:List (Addr×Obj)}{σ:St}{H:Hp}{s:Shared}{A:Around}{E:Value->Shared->Prop}{Q:Value->Shared->Prop}{c:Value}{b:Bool}
inductive mK (K:PySem.W.Frag)(H:Hp):V->Value->Prop where
 | non:mK K H .non (.type "NoneType")
 | bl (x:Bool):mK K H (.bl x) (.type "bool")
 | int (i:Int):mK K H (.int i) (.type "int")
 | str (x:Str):mK K H (.str x) (.type "str")
 | flt (x:UInt64):mK K H (.flt x) (.type "float")
 | lst {a:Addr} {xs:List V} (e:H a=some (.lst xs)):mK K H (.ref a) (.type "list")
 | frz {a:Addr} {o:Obj} {xs:List V} (e:H a=some (.frz o (.lst xs))):mK K H (.ref a) (.type "list")
 | tup {a:Addr} {xs:List V} (e:H a=some (.tup xs)):mK K H (.ref a) (.type "tuple")
 | dK {a:Addr} {kvs:List (Key×V)} (e:H a=some (.dK kvs)):mK K H (.ref a) (.type "dict")
 | dT {a:Addr} {kvs:List (List Key×V)} (e:H a=some (.dT kvs)):mK K H (.ref a) (.type "dict")
 | ins {a C dx:Addr} {fs:List (Str×V)} (e:H a=some (.ins C dx fs)) (cl:Cls K C) (ha:PySem.W.findIn K (.ref C) "__class__" = some (some (.builtin "object.__class__")))
  (hn:PySem.W.specialIn K (.builtin "object.__class__") "__get__" = some (some (.builtin "getset_descriptor.__get__"))) (htk:PySem.W.takesIn K (.builtin "object.__class__")=some true)
  (hm:PySem.W.mroIn K C (.type "object")=some true):mK K H (.ref a) (.ref C)
theorem Da {x:V}{u t:Value}(I:Inv X pins σ H s)(rx:bE x u)(ty:mK X.K H x t)(e:PySem.W.kitOne X.K t c=some b)(h:∀ tk,Q (.bool b) { s with toks:=tk }) :
  wpAny (model X.prog X.w) A (call (.builtin "isinstance") [u,c]) Q E s:=by
 cases ty with
 | non=>cases (show u=Value.none from rx);exact PySem.W.kia_one PySem.W.kitx_none I.kIn True.intro e (fun z=>nomatch z) h
 | bl y=>cases (show u=Value.bool y from rx);exact PySem.W.kia_one PySem.W.kitx_bool I.kIn True.intro e (fun z=>nomatch z) h
 | int i=>obtain ⟨t,q⟩:=(show ∃ t,u=Value.int i t from rx);cases q;exact PySem.W.kia_one PySem.W.kitx_int I.kIn True.intro e (fun z=>nomatch z) h
 | str y=>obtain ⟨t,q⟩:=(show ∃ t,u=Value.str y t from rx);cases q;exact PySem.W.kia_one PySem.W.kitx_str I.kIn True.intro e (fun z=>nomatch z) h
 | flt y=>obtain ⟨t,q⟩:=(show ∃ t,u=Value.float y t from rx);cases q;exact PySem.W.kia_one PySem.W.kitx_float I.kIn True.intro e (fun z=>nomatch z) h
 | @lst a xs ea =>
  cases (show u=Value.ref a from rx);obtain ⟨_,_,n,_,h1⟩:=(show cG X.prog X.w H s.heap a (.lst xs) from I.hok a _ ea);exact PySem.W.kia_one PySem.W.kitx_list I.kIn ⟨_,h1,rfl⟩ e (fun z=>nomatch z) h
 | @frz a ob xs ea =>
  cases (show u=Value.ref a from rx);obtain ⟨_,_,_,n,_,h1⟩:=(show cG X.prog X.w H s.heap a (.frz ob (.lst xs)) from I.hok a _ ea);exact PySem.W.kia_one PySem.W.kitx_list I.kIn ⟨_,h1,rfl⟩ e (fun z=>nomatch z) h
 | @tup a xs ea =>
  cases (show u=Value.ref a from rx);obtain ⟨_,_,_,p⟩:=(show cG X.prog X.w H s.heap a (.tup xs) from I.hok a _ ea);obtain ⟨o,h1,h2,_⟩:=p;exact PySem.W.kia_one PySem.W.kitx_tuple I.kIn ⟨o,h1,h2⟩ e (fun z=>nomatch z) h
 | @dK a kvs ea =>
  cases (show u=Value.ref a from rx);obtain ⟨_,_,vs,_,p⟩:=(show cG X.prog X.w H s.heap a (.dK kvs) from I.hok a _ ea);obtain ⟨o,es,ep,h1,h2,_⟩:=p;exact PySem.W.kia_one PySem.W.kitx_dict I.kIn ⟨o,h1,h2.1⟩ e (fun z=>nomatch z) h
 | @dT a kvs ea =>
  cases (show u=Value.ref a from rx);obtain ⟨_,_,xs,_,o,es,ep,h1,h2,_⟩:=(show cG X.prog X.w H s.heap a (.dT kvs) from I.hok a _ ea);exact PySem.W.kia_one PySem.W.kitx_dict I.kIn ⟨o,h1,h2.1⟩ e (fun z=>nomatch z) h
 | @ins a C dx fs ea cl ha hn htk hm =>
  cases (show u=Value.ref a from rx);obtain ⟨mA,O,_⟩:=vA I.hok ea;obtain ⟨od,J,_⟩:=O.look;exact PySem.W.kia_one (PySem.W.kitx_own (cl.get _) cl.hd ha hn htk hm) I.kIn J e (fun z=>nomatch z) h
end
set_option genInjectivity false in
structure gD (k:Nat)(A:Around):Prop where
 hd:A.handled=none
 dp:A.depth+3*k+5<recursionLimit
 un:A.units+16*k+200<cLine
theorem gD.mono {j k:Nat}{A:Around}(r:gD k A)(h:j<=k):gD j A:=⟨r.hd,by have:=r.dp;omega,by have:=r.un;omega⟩
theorem gD.deeper {k:Nat}{A:Around}(r:gD (k+1) A)(env:Env):gD k (A.deeper env) :=
 ⟨r.hd,by have:=r.dp;show A.depth+1+3*k+5<_;omega,by have:=r.un;show A.units+3+16*k+200<_;omega⟩
theorem yC {A:Around}{C:Addr}{us:List Value}{kw:List (Str×Value)}:(A.under (.builtin "type.__call__" ⟨.ref C::us,kw⟩)).depth=A.depth+1:=by
 first | rfl | simp [Around.under,Code.weight,Code.isCreation,Code.isGuard,Code.isCaller,Code.frames,Code.isFrame,guardIds]
theorem yQ {A:Around}{C:Addr}{us:List Value}{kw:List (Str×Value)}:(A.under (.builtin "type.__call__" ⟨.ref C::us,kw⟩)).units=A.units+1:=by
 first | rfl | simp [Around.under,Code.cUnits,Code.frames,Code.isFrame]
theorem gD.make {k:Nat}{A:Around}(r:gD (k+1) A)(C:Addr)(us:List Value)(kw:List (Str×Value)):gD k (A.under (.builtin "type.__call__" ⟨.ref C::us,kw⟩)) :=
 ⟨r.hd,by have:=r.dp;rw [yC];omega,by have:=r.un;rw [yQ];omega⟩
theorem gD.depth {k:Nat}{A:Around}(r:gD k A):A.depth<recursionLimit:=by have:=r.dp;omega
theorem gD.units {k:Nat}{A:Around}(r:gD k A):A.units+64<cLine:=by have:=r.un;omega
def Ol:TA:=fun _ H Q=>Q [] H
def qK (ta:TE)(tr:TA):TA:=fun σ H Q=>ta σ H fun x H1=>tr σ H1 fun xs H2=>Q (x::xs) H2
section
variable {X:Cx}{e:Expr}{es:List Expr}{te:TE}{t:TA}{pos:Pos}
theorem aD:PA X [] Ol:=fun _ _ _ _ H Q I h=>Calls.spliced_nil ⟨[],H,I,.nil,h⟩
theorem aA (ha:PE X e te)(hr:PA X es t)(hs:starEach (e::es) X.env=(false,eval e X.env)::starEach es X.env:=by rfl):PA X (e::es) (qK te t):=by
 intro pos pins s σ H Q I h;rw [hs];show wpAny _ _ (spliced ((false,eval e X.env)::backTo pos (starEach es X.env))) _ _ s;refine Calls.spliced_cons (thn (ha pins s σ H _ I h) fun u s1 ⟨x,H1,I1,r1,q1⟩=>?_);exact thn (hr pos pins s1 σ H1 _ I1 q1) fun us s2 ⟨xs,H2,I2,r2,q2⟩=>⟨x::xs,H2,I2,.cons r1 r2,q2⟩
def Oa (t:TA):TE:=fun σ H Q=>t σ H fun xs H1=>xs.length<=sizeLine∧∀ p,H1 p=none->Q (.ref p) (upd H1 p (.tup xs))
def Qm (t:TA):TE:=fun σ H Q=>t σ H fun xs H1=>xs.length<=sizeLine∧∀ p,H1 p=none->Q (.ref p) (upd H1 p (.lst xs))
theorem Mt {x1}(h:PA X es t):PE X (.Tuple es x1 pos) (Oa t):=by
 intro pins s σ H Q I hq;refine wpAny_Tuple_spliced (thn (h pos pins s σ H _ I hq) fun us s1 ⟨xs,H1,I1,r,z,q⟩=>⟨by rw [<- r.length];exact z,?_⟩);have hf:H1 s1.heap.objs.size=none:=I1.hok.fresh (Nat.le_refl _);refine ⟨.ref s1.heap.objs.size,upd H1 s1.heap.objs.size (.tup xs),I1.laid (t':=s1.toks) (fun b u e=>Heap.get?_push_of_some _ e) (Nat.le_refl _) ?_,rfl,q _ hf⟩;exact ⟨z,us,r,⟨_,Heap.get?_push_size _ rfl,rfl,_,rfl⟩⟩
theorem cU (h:PA X es t):PE X (.List es pos) (Qm t):=by
 intro pins s σ H Q I hq;refine wpAny_List_spliced (thn (h pos pins s σ H _ I hq) fun us s1 ⟨xs,H1,I1,r,z,q⟩=>⟨by rw [<- r.length];exact z,?_⟩);have hf:H1 s1.heap.objs.size=none:=I1.hok.fresh (Nat.le_refl _);refine ⟨.ref s1.heap.objs.size,upd H1 s1.heap.objs.size (.lst xs),I1.laid (t':=s1.toks) (fun b u e=>Heap.get?_push_of_some _ e) (Nat.le_refl _) ?_,rfl,q _ hf⟩;exact ⟨z,us,0,r,Heap.get?_push_size _ rfl⟩
end
abbrev Sp:=List V->Hp->VK->XK->Prop
abbrev CXT:=List Env->Hp->Shared->XK->Value->Shared->Prop
set_option genInjectivity false in
structure zE (P:Program)(w:World)(K:PySem.W.Frag)(mg:Str->Option Value)(base:Heap)(A:Around)(outer:List Env)(s:Shared)(H:Hp):Prop where
 frames:A.frames=some outer
 mod:Mod K mg base
 bs:∀ b o,base.get? b=some o->s.heap.get? b=some o∧H b=none
 bsz:base.objs.size<=s.heap.objs.size
 funs:s.heap.FunFrames base outer
 frf:∀ b∈frs outer,H b=none
 hok:HOk P w H s.heap
 bare:AllBare s.gens
def CE (outer:List Env)(P:Program)(w:World)(H:Hp)(s:Shared)(Q:VK)(u:Value)(s':Shared):Prop :=
 ∃ v H',s'.os=s.os∧AllBare s'.gens∧Un (frs outer) [] H H' s.heap s'.heap∧HOk P w H' s'.heap∧bE v u∧Q v H'
def CR (CX:CXT)(outer:List Env)(P:Program)(w:World)(H:Hp)(s:Shared)(Q:VK)(E:XK)(r:Result)(s':Shared):Prop :=
 match r with
 | .ok (.ret u)=>CE outer P w H s Q u s'
 | .ok _=>False
 | .error e=>CX outer H s E e s'
set_option genInjectivity false in
structure cO (P:Program)(w:World)(K:PySem.W.Frag)(mg:Str->Option Value)(base:Heap)(CX:CXT)(k:Nat)(f:Addr)(fd:FuncData)(ps:List Str)(sp:Sp):Prop where
 len:∀ vs H Q E,sp vs H Q E->vs.length=ps.length
 run:∀ (A:Around) (outer:List Env) (s:Shared) (H:Hp) (args:Args) (us:List Value) (vs:List V) (Q:VK) (E:XK),gD k A->zE P w K mg base A outer s H->BindsTo s fd args (ps.zip us)->bT vs us->sp vs H Q E ->
  codeAny (model P w) A (.call (.ref f) args) (CR CX outer P w H s Q E) s
theorem zE.make {P:Program}{w:World}{K:PySem.W.Frag}{mg:Str->Option Value}{base:Heap}{A:Around}{outer:List Env}{s:Shared}{H:Hp}(e:zE P w K mg base A outer s H)(C:Addr)(us:List Value)(kw:List (Str×Value)) :
 zE P w K mg base (A.under (.builtin "type.__call__" ⟨.ref C::us,kw⟩)) outer s H:=⟨by first | exact e.frames | (simpa [Around.under,Code.envs,Code.isFrame,pushEnvs] using e.frames),e.mod,e.bs,e.bsz,e.funs,e.frf,e.hok,e.bare⟩
section
variable {X:Cx}{pins:List (Addr×Obj)}{σ:St}{H:Hp}{s s':Shared}
theorem Inv.env0 (I:Inv X pins σ H s):zE X.prog X.w X.K X.mg X.base X.A X.stack s H :=
 ⟨I.ok.frames,I.ok.mod,I.bs,Nat.le_trans I.ok.bsz I.sz,I.stack,I.stkFree,I.hok,I.bare⟩
theorem Inv.after {Q:VK}{u:Value}(I:Inv X pins σ H s)(h:CE X.stack X.prog X.w H s Q u s'):EP X pins σ Q u s':=by
 obtain ⟨v,H',os,bare,un,hok,r,q⟩:=h;obtain ⟨hh,g,d,t,os'⟩:=s';obtain rfl:os'=s.os:=os;exact ⟨v,H',I.call (h':=hh) (g':=g) (d':=d) (t':=t) (ch:=[]) un hok bare (fun b z=>absurd z (by simp)),r,q⟩
end
def Kf (sp:Sp)(dvs:List V)(E:XK)(t:TA):TE:=fun σ H Q=>t σ H fun vs H1=>sp (vs++dvs) H1 Q E
def Kt (C:Addr)(sp:Sp)(dvs:List V)(E:XK)(t:TA):TE:=fun σ H Q=>t σ H fun vs H1=>∀ x dx,H1 x=none->H1 dx=none->dx≠x ->
 sp (.ref x::(vs++dvs)) (upd (upd H1 dx (.own x)) x (.ins C dx [])) (fun v H2=>v = .non∧Q (.ref x) H2) E
def lQ (K:PySem.W.Frag)(fd:FuncData)(ps:List Str)(ds:List Value):Prop :=
 ∀ (s:Shared) (us:List Value),K.In s.heap->(us++ds).length=ps.length->BindsTo s fd ⟨us,[]⟩ (ps.zip (us++ds))
theorem lQ.all {K:PySem.W.Frag}{fd:FuncData}{ps:List Str}(h:∀ us:List Value,us.length=ps.length->bindArgs fd ⟨us,[]⟩=pure (ps.zip us)):lQ K fd ps []:=fun s us _ hl=>by
 rw [List.append_nil] at hl ⊢;exact .of_eq (h us hl)
def jJ (CX:CXT)(X:Cx)(E:XK):Prop:=∀ (pins:List (Addr×Obj)) (σ:St) (H:Hp) (s:Shared) (e:Value) (s':Shared),Inv X pins σ H s->CX X.stack H s E e s'->X.xe e s'
section
variable {X:Cx}{CX:CXT}{k:Nat}{f C:Addr}{fd:FuncData}{ps:List Str}{sp:Sp}{dvs:List V}{ds:List Value}{E:XK}{x m:Str}{p pos apos:Pos}{e o:Expr}{es:List Expr}{ta:TE}{t:TA}
theorem Ly {pins:List (Addr×Obj)}{σ:St}{H:Hp}{s:Shared}{Q:VK}{us:List Value}{vs:List V}(F:cO X.prog X.w X.K X.mg X.base CX k f fd ps sp)(hr:gD k X.A)(hb:lQ X.K fd ps ds)(hd:bT dvs ds)(hx:jJ CX X E)
  (I:Inv X pins σ H s) (r:bT vs us) (h:sp (vs++dvs) H Q E):wpAny (model X.prog X.w) X.A (call (.ref f) us) (EP X pins σ Q) X.xe s:=by
 have r2:bT (vs++dvs) (us++ds):=r.append hd;have hl:(us++ds).length=ps.length:=by rw [<- r2.length];exact F.len _ _ _ _ h
 refine wpAny_call (codeAny_mono (F.run X.A X.stack s H ⟨us,[]⟩ (us++ds) (vs++dvs) Q E hr I.env0 (hb s us I.kIn hl) r2 h) fun r s' hq=>?_)
 cases r with
 | error e=>exact hx pins σ H s e s' I hq
 | ok fl =>
  cases fl with
  | ret u=>exact I.after hq
  | next=>exact False.elim hq
  | brk=>exact False.elim hq
  | cont=>exact False.elim hq
theorem Jd (F:cO X.prog X.w X.K X.mg X.base CX k f fd ps sp)(hr:gD k X.A)(hg:Gl X x)(hm:X.mg x=some (.ref f))(hk:PySem.W.keepIn X.K (.ref f)=true)(hb:lQ X.K fd ps ds)(hd:bT dvs ds)(hx:jJ CX X E)
  (ha:PA X (e::es) t) (hdb:(x==("__debug__" : Str))=false:=by decide) (he:starEach (e::es) X.env=(false,eval e X.env)::starEach es X.env:=by rfl) (hpl:(backTo pos (starEach es X.env)).any (·.1)=false:=by rfl) :
  PE X (.Call (.Name x p) (e::es) [] pos) (Kf sp dvs E t):=by
 intro pins s σ H Q I h;refine wpAny_Call_Name_kw (oT I hg hm ?_ hdb);refine PySem.W.callWith_K (h₀:=X.base) I.ok.mod.kin hk (thn (ha pos pins s σ H _ I h) fun us s1 ⟨vs,H1,I1,r,q⟩=>⟨I1.kIn,?_⟩) he hpl;exact Ly F hr hb hd hx I1 r q
set_option genInjectivity false in
structure Mk (K:PySem.W.Frag)(C f:Addr):Prop where
 makes:PySem.W.makesIn K C=true
 init:PySem.W.findIn K (.ref C) "__init__" = some (some (.ref f))
 fn:PySem.W.isFn K (.ref f)=true
 kp:PySem.W.keepIn K (.ref C)=true
theorem Ec {pins:List (Addr×Obj)}{σ:St}{H:Hp}{s:Shared}{Q:VK}{us:List Value}{vs:List V}(M:Mk X.K C f)(F:cO X.prog X.w X.K X.mg X.base CX k f fd ps sp)(hr:gD (k+1) X.A)(hb:lQ X.K fd ps ds)(hd:bT dvs ds)
  (hx:jJ CX X E) (I:Inv X pins σ H s) (r:bT vs us)
  (h:∀ x dx,H x=none->H dx=none->dx≠x->sp (.ref x::(vs++dvs)) (upd (upd H dx (.own x)) x (.ins C dx [])) (fun v H2=>v = .non∧Q (.ref x) H2) E) :
  wpAny (model X.prog X.w) X.A (call (.ref C) us) (EP X pins σ Q) X.xe s:=by
 have hq:=h (s.heap.objs.size+1) s.heap.objs.size (I.hok.fresh (Nat.le_succ _)) (I.hok.fresh (Nat.le_refl _)) (Nat.ne_of_lt (Nat.lt_succ_self _));have I2:=Inv.made (C:=C) I;have r2:bT (V.ref (s.heap.objs.size+1)::(vs++dvs)) (Value.ref (s.heap.objs.size+1)::(us++ds)):=.cons rfl (r.append hd);have hl:(Value.ref (s.heap.objs.size+1)::us++ds).length=ps.length:=by
  have e:=r2.length;rw [F.len _ _ _ _ hq] at e;exact e.symm
 refine wpAny_call (Fk (f:=f) I.kIn M.makes M.init (beq_iff_eq.mp M.fn) (codeAny_mono (F.run _ X.stack _ _ ⟨Value.ref (s.heap.objs.size+1)::us,[]⟩ (Value.ref (s.heap.objs.size+1)::(us++ds)) _ _ E (hr.make C us [])
  (I2.env0.make C us []) (hb _ (Value.ref (s.heap.objs.size+1)::us) I2.kIn hl) r2 hq) fun r s' hq'=>?_))
 cases r with
 | error e=>exact hx pins σ _ _ e s' I2 hq'
 | ok fl =>
  cases fl with
  | ret u =>
   obtain ⟨v,H',I3,rv,ev,q3⟩:=I2.after hq';subst ev;exact ⟨rv,⟨V.ref (s.heap.objs.size+1),H',I3,rfl,q3⟩⟩
  | next=>exact False.elim hq'
  | brk=>exact False.elim hq'
  | cont=>exact False.elim hq'
theorem Jc (M:Mk X.K C f)(F:cO X.prog X.w X.K X.mg X.base CX k f fd ps sp)(hr:gD (k+1) X.A)(hg:Gl X x)(hm:X.mg x=some (.ref C))(hb:lQ X.K fd ps ds)(hd:bT dvs ds)(hx:jJ CX X E)
  (ha:PA X (e::es) t) (hdb:(x==("__debug__" : Str))=false:=by decide) (he:starEach (e::es) X.env=(false,eval e X.env)::starEach es X.env:=by rfl) (hpl:(backTo pos (starEach es X.env)).any (·.1)=false:=by rfl) :
  PE X (.Call (.Name x p) (e::es) [] pos) (Kt C sp dvs E t):=by
 intro pins s σ H Q I h;refine wpAny_Call_Name_kw (oT I hg hm ?_ hdb);refine PySem.W.callWith_K (h₀:=X.base) I.ok.mod.kin M.kp (thn (ha pos pins s σ H _ I h) fun us s1 ⟨vs,H1,I1,r,q⟩=>⟨I1.kIn,?_⟩) he hpl;exact Ec M F hr hb hd hx I1 r q
end
section
variable {X:Cx}{CX:CXT}{k:Nat}{f C:Addr}{fd:FuncData}{ps ks:List Str}{sp:Sp}{E:XK}{x m:Str}{p pos apos kpos:Pos}{e o:Expr}{es:List Expr}{kws:List Keyword}{te ta:TE}{t tk:TA}{nm:Option Str}
variable {g:List Value->List Value->List Value}{gV:List V->List V->List V}
end
set_option genInjectivity false in
structure aX (N P:List Str)(sc:Scope):Prop where
 kind:sc.kind = .function
 co:sc.isCoroutine=false
 gen:sc.isGenerator=false
 nd:N.Nodup
 pre:N.take P.length=P
 par:∀ x∈P,sc.names.lookup x=some .local∨sc.names.lookup x=some .cell
 nofree:∀ y∈sc.names,y.2≠.free
theorem rZ {kindOf:Str->Option NameKind}{x:Str}:∀ {binds:List (Str×Value)} {m:Str->Option Value},(∀ v,(x,v)∉binds)->bindL kindOf binds m x=m x
 | [],_,_=>rfl
 | (n,v)::r,m,h=>by
  unfold bindL;rw [rZ fun w hw=>h w (List.mem_cons_of_mem _ hw)];split
  ·have:x≠n:=by rintro rfl;exact h v List.mem_cons_self
   simp [this]
  ·rfl
theorem sF {kindOf:Str->Option NameKind}{x:Str}:∀ {binds:List (Str×Value)} {m:Str->Option Value},(∀ v,(x,v)∉binds)->bindC kindOf binds m x=m x
 | [],_,_=>rfl
 | (n,v)::r,m,h=>by
  unfold bindC;rw [sF fun w hw=>h w (List.mem_cons_of_mem _ hw)];split
  ·rfl
  ·have:x≠n:=by rintro rfl;exact h v List.mem_cons_self
   simp [this]
theorem sR {kindOf:Str->Option NameKind}{x:Str}{v:Value}:∀ {P:List Str} {vs:List Value} {i:Nat} {m:Str->Option Value},P.Nodup->P[i]?=some x->vs[i]?=some v->kindOf x=some .local ->
  bindL kindOf (P.zip vs) m x=some v
 | [],_,_,_,_,h,_,_=>by simp at h
 | _::_,[],_,_,_,_,h,_=>by simp at h
 | p::P,w::vs,0,m,nd,h1,h2,hk=>by
  simp at h1 h2;subst h1;subst h2;show bindL kindOf ((p,w)::P.zip vs) m p=_;unfold bindL;rw [rZ fun v hv=>(List.nodup_cons.mp nd).1 (List.of_mem_zip hv).1,if_pos hk];simp
 | p::P,w::vs,i+1,m,nd,h1,h2,hk=>by
  show bindL kindOf ((p,w)::P.zip vs) m x=_;unfold bindL;exact sR (i:=i) (List.nodup_cons.mp nd).2 (by simpa using h1) (by simpa using h2) hk
theorem sO {kindOf:Str->Option NameKind}{x:Str}{v:Value}:∀ {P:List Str} {vs:List Value} {i:Nat} {m:Str->Option Value},P.Nodup->P[i]?=some x->vs[i]?=some v->kindOf x≠some .local ->
  bindC kindOf (P.zip vs) m x=some v
 | [],_,_,_,_,h,_,_=>by simp at h
 | _::_,[],_,_,_,_,h,_=>by simp at h
 | p::P,w::vs,0,m,nd,h1,h2,hk=>by
  simp at h1 h2;subst h1;subst h2;show bindC kindOf ((p,w)::P.zip vs) m p=_;unfold bindC;rw [sF fun v hv=>(List.nodup_cons.mp nd).1 (List.of_mem_zip hv).1,if_neg hk];simp
 | p::P,w::vs,i+1,m,nd,h1,h2,hk=>by
  show bindC kindOf ((p,w)::P.zip vs) m x=_;unfold bindC;exact sO (i:=i) (List.nodup_cons.mp nd).2 (by simpa using h1) (by simpa using h2) hk
def lJ (N:List Str)(vs:List V):St:=vs.map some++List.replicate (N.length-vs.length) none
def nV (CX:CXT)(P:Program)(w:World)(K:PySem.W.Frag)(mg:Str->Option Value)(base:Heap)(N:List Str)(qual:Str)(scope:Scope)(f:Addr)(cd:Value)(A:Around)(outer:List Env)(s:Shared)(H:Hp)(E:XK):Cx where
 prog:=P
 w:=w
 K:=K
 mg:=mg
 base:=base
 A:=A.deeper (envOfC qual scope s.heap.objs.size f cd)
 N:=N
 s₀:=s
 H₀:=H
 env:=envOfC qual scope s.heap.objs.size f cd
 outer:=outer
 stack:=envOfC qual scope s.heap.objs.size f cd::outer
 ex:=[]
 calm:=true
 fn:=fun _=>true
 pn:=[]
 xe:=fun e s'=>wpAny (model P w) (A.deeper (envOfC qual scope s.heap.objs.size f cd)) (leaving (envOfC qual scope s.heap.objs.size f cd) e) (fun _ s''=>CX outer H s E e s'') (fun e' s''=>CX outer H s E e' s'') s'
theorem wL {sc:Scope}{n:Nat}{x:Str}(h:sc.names.lookup x=some .cell):∃ c,(cellsFrom n sc.names []).lookup x=some c:=by
 have q:=PySem.W.cellsFrom_some sc.names n [] (.inl h);exact Option.isSome_iff_exists.mp q
theorem Cb {CX:CXT}{P:Program}{w:World}{K:PySem.W.Frag}{mg:Str->Option Value}{base:Heap}{N ps:List Str}{qual:Str}{scope:Scope}{f:Addr}{cd:Value}{A:Around}{outer:List Env}{s s1:Shared}{H:Hp}{E:XK}{us:List Value}{vs:List V}
  (S:aX N ps scope) (hd:A.handled=none) (e0:zE P w K mg base A outer s H) (hl:vs.length=ps.length) (r:bT vs us)
  (x:InCallC s s.heap.objs.size (bindL (envOfC qual scope s.heap.objs.size f cd).kindOf (ps.zip us) fun _=>none) (cellsFrom (s.heap.objs.size+1) scope.names []) (bindC (envOfC qual scope s.heap.objs.size f cd).kindOf (ps.zip us) fun _=>none) s1) :
  Inv (nV CX P w K mg base N qual scope f cd A outer s H E) [] (lJ N vs) H s1:=by
 have hpl:ps.length<=N.length:=by have:=congrArg List.length S.pre;rw [List.length_take] at this;omega
 obtain ⟨h1,tk,rfl,hk⟩:=x.done;have noA:∀ b:Addr,b∉(nV CX P w K mg base N qual scope f cd A outer s H E).ex:=fun b z=>absurd (show b∈([]:List Addr) from z) (by simp)
 refine ⟨⟨e0.mod,S.kind,rfl,rfl,Nat.le_refl _,fun y z c h1 h2=>?_,fun y hy=>?_,fun y c _ h=>?_,fun _=>hd,Around.frames_deeper e0.frames,.inr ⟨rfl,rfl⟩,fun b z=>absurd z (noA b),e0.bs,e0.bsz,fun b _ _=>noA b,fun b z=>absurd z (noA b),e0.funs,e0.frf⟩,
  rfl,e0.bare,Un.kept hk,⟨_,x.toInCall.ns,fun i y v h1 h2 h3=>?_⟩,fun y c h=>⟨_,x.cell y c h⟩,e0.hok.fresh (Nat.le_refl _),fun y c h=>?_,fun p hp=>absurd (show p∈([]:List (Addr×Obj)) from hp) (by simp),e0.hok.kept hk,?_⟩
 ·exact name_of_addr x.apart (PySem.mem_of_lookup h1) (PySem.mem_of_lookup h2)
 ·have hy:scope.names.lookup y=some .cell∨scope.names.lookup y=some .free:=hy
  rcases hy with hy | hy
  ·exact wL hy
  ·exact absurd rfl (S.nofree _ (PySem.mem_of_lookup hy))
 ·exact Nat.le_of_lt (x.above y c (PySem.mem_of_lookup h))
 ·have hi:i<vs.length:=by
   unfold lJ at h2;by_cases hi:i<vs.length
   ·exact hi
   ·rw [List.getElem?_append_right (by simpa using hi)] at h2
    rw [List.getElem?_replicate] at h2;split at h2 <;> cases h2
  have ha:vs[i]?=some v:=by
   unfold lJ at h2;rw [List.getElem?_append_left (by simpa using hi),List.getElem?_map] at h2
   cases e:vs[i]? with
   | none=>rw [e] at h2;cases h2
   | some a=>rw [e] at h2;cases h2;rfl
  obtain ⟨u,hu,rv⟩:=r.get ha;have hp:ps[i]?=some y:=by
   rw [<- S.pre,List.getElem?_take_of_lt (by omega)];exact h1
  have ndP:ps.Nodup:=by rw [<- S.pre];exact S.nd.sublist (List.take_sublist _ _)
  refine ⟨u,rv,?_⟩;rcases S.par y (List.mem_of_getElem? hp) with k | k
  ·exact .inl ⟨k,sR ndP hp hu k⟩
  ·obtain ⟨c,e⟩:=wL (n:=s.heap.objs.size+1) k
   refine .inr ⟨.inl k,c,e,?_⟩;have q:=x.cell y c e;rw [sO ndP hp hu (by show scope.names.lookup y≠_;rw [k];decide)] at q;exact q
 ·exact e0.hok.fresh (Nat.le_of_lt (x.above y c (PySem.mem_of_lookup h)))
 ·unfold lJ
  show _=N.length;rw [List.length_append,List.length_map,List.length_replicate];omega
theorem Kj {CX:CXT}{P:Program}{w:World}{K:PySem.W.Frag}{mg:Str->Option Value}{base:Heap}{k:Nat}{f:Addr}{name qual:Str}{params:Arguments}{body:List Stmt}{scope:Scope}{dV kV doc pm cdv ct oc:Value}{an od:Option Addr}
  {osl:Array (Option Value)} {N ps:List Str} {sp:Sp} (lk:K.lookup f=some ⟨oc,od,.func (PySem.W.fnOf name qual params body scope dV kV doc pm an cdv ct),osl⟩) (hcd:PySem.W.codeIn K cdv qual=true) (S:aX N ps scope)
  (len:∀ vs H Q E,sp vs H Q E->vs.length=ps.length)
  (hbody:∀ (A:Around) (outer:List Env) (s:Shared) (H:Hp) (vs:List V) (Q:VK) (E:XK),gD k (A.deeper (envOfC qual scope s.heap.objs.size f cdv))->sp vs H Q E ->
   ∃ t,PSs (nV CX P w K mg base N qual scope f cdv A outer s H E) body t∧t { nx:=fun _ H'=>Q .non H',rt:=Q } (lJ N vs) H) :
  cO P w K mg base CX (k+1) f (PySem.W.fnOf name qual params body scope dV kV doc pm an cdv ct) ps sp:=by
 refine ⟨len,fun A outer s H args us vs Q E hr e0 hb r hsp=>?_⟩;have hl:=len _ _ _ _ hsp;have KX:K.In s.heap:=e0.mod.kin.keeps fun b o e=>(e0.bs b o e).1
 have lim:s.heap.NoLimit:=e0.mod.nolimit.keeps fun b o e=>(e0.bs b o e).1
 have hkind:∀ y∈ps.zip us,scope.names.lookup y.1=some .local∨(scope.names.lookup y.1=some .cell∧((cellsFrom (s.heap.objs.size+1) scope.names []).lookup y.1).isSome=true):=fun ⟨n,v⟩ hy=>by
  rcases S.par n (List.of_mem_zip hy).1 with q | q
  ·exact .inl q
  ·exact .inr ⟨q,PySem.W.cellsFrom_some _ _ _ (.inl q)⟩
 refine codeAny_call_function hr.depth (KX _ _ lk) rfl S.co S.gen rfl (PySem.W.codeRec_of KX hcd) (hb _ _ _ _ ?_);refine wpAny_newFunctionEnv_cells S.kind hkind fun env he s1 x=>?_
 subst he;refine ⟨lim.keeps x.toInCall.keep,codeAny_func ?_⟩;obtain ⟨t,ht,hq⟩:=hbody A outer s H vs Q E (hr.deeper _) hsp;have I:Inv (nV CX P w K mg base N qual scope f cdv A outer s H E) [] (lJ N vs) H s1:=Cb S hr.hd e0 hl r x;refine wpAny_mono (ht [] s1 (lJ N vs) H _ I hq) (fun fl s' hs=>?_) fun e s' hs=>hs
 have fin:∀ {σ':St} {H':Hp} {v:V} {u:Value},Inv (nV CX P w K mg base N qual scope f cdv A outer s H E) [] σ' H' s'->bE v u->Q v H'->CE outer P w H s Q u s' :=
  fun {σ' H' v u} J rv q=>⟨v,H',J.os,J.bare,J.base,J.hok,rv,q⟩
 cases fl with
 | ret u =>
  obtain ⟨v,σ',H',J,rv,q⟩:=hs;exact fin J rv q
 | next =>
  obtain ⟨σ',H',J,q⟩:=hs;exact fin (v:=V.non) (u:=Value.none) J rfl q
 | brk =>
  obtain ⟨_,_,_,q⟩:=hs;exact False.elim q
 | cont =>
  obtain ⟨_,_,_,q⟩:=hs;exact False.elim q
section
variable {X:Cx}{x:Str}{p pos:Pos}{e:Expr}{es:List Expr}{t:TA}{id T:String}{r:List V->Hp->VK->Prop}
def tCB (r:List V->Hp->VK->Prop)(t:TA):TE:=fun σ H Q=>t σ H fun vs H1=>r vs H1 Q
theorem aN (hc:eI X (.builtin id) r)(hg:Gl X x)(hm:X.mg x=none)(hv:bootBuiltins x=some (.builtin id))(ha:PA X (e::es) t)(hn:x ≠ "__name__" := by decide)(hdb:(x==("__debug__" : Str))=false:=by decide)
  (he:starEach (e::es) X.env=(false,eval e X.env)::starEach es X.env:=by rfl) (hpl:(backTo pos (starEach es X.env)).any (·.1)=false:=by rfl):PE X (.Call (.Name x p) (e::es) [] pos) (tCB r t):=by
 intro pins s σ H Q I h;refine wpAny_Call_Name_kw (mS I hg hm hv ?_ hn hdb);exact PyProof.Rows.callWith_builtin1 (thn (ha pos pins s σ H _ I h) fun us s1 ⟨vs,H1,I1,r1,q1⟩=>hc pins s1 σ H1 vs us Q I1 r1 q1) he hpl
theorem dA (hc:eI X (.type T) r)(hg:Gl X x)(hm:X.mg x=none)(hv:bootBuiltins x=some (.type T))(ha:PA X (e::es) t)(hn:x ≠ "__name__" := by decide)(hdb:(x==("__debug__" : Str))=false:=by decide)
  (he:starEach (e::es) X.env=(false,eval e X.env)::starEach es X.env:=by rfl) (hpl:(backTo pos (starEach es X.env)).any (·.1)=false:=by rfl):PE X (.Call (.Name x p) (e::es) [] pos) (tCB r t):=by
 intro pins s σ H Q I h;refine wpAny_Call_Name_kw (mS I hg hm hv ?_ hn hdb);exact PyProof.Rows.callWith_type1 (thn (ha pos pins s σ H _ I h) fun us s1 ⟨vs,H1,I1,r1,q1⟩=>hc pins s1 σ H1 vs us Q I1 r1 q1) he hpl
end
end L2
namespace HT
open PySem PyProof.Rows
section
open PySem.SeqAt
open PySem.AutoSeq1 (wpAny_loadPart')
open PySem.MeetsSeq PySem.MeetsSeq2 PySem.MeetsSeq3
end
section
variable {prog:Program}{w:World}{A:Around}{E:Value->Shared->Prop}{s:Shared}
def sIx (n d:Nat):Option Int->Nat
 | none=>d
 | some v=>if v<0 then (v+(n:Int)).toNat else min v.toNat n
theorem fB (n d:Nat):sIx n d none=d:=rfl
theorem fD (n d k:Nat):sIx n d (some (k:Int))=min k n:=by
 show (if (k:Int)<0 then ((k:Int)+(n:Int)).toNat else min (k:Int).toNat n)=min k n;rw [if_neg (by omega),Int.toNat_natCast]
theorem uJ (n d:Nat)(hd:d<=n)(o:Option Int):sIx n d o<=n:=by
 cases o with
 | none=>exact hd
 | some v =>
  show (if v<0 then (v+(n:Int)).toNat else min v.toNat n)<=n;by_cases hv:v<0
  ·rw [if_pos hv];omega
  ·rw [if_neg hv];exact Nat.min_le_right _ _
end
end HT
namespace L2
open PySem PySem.Spec PyProof.Rows
abbrev TO:=St->Hp->(Option Int->Hp->Prop)->Prop
def PO (X:Cx)(e:Option Expr)(t:TO):Prop :=
 ∀ (pins:List (Addr×Obj)) (s:Shared) (σ:St) (H:Hp) (Q:Option Int->Hp->Prop),Inv X pins σ H s->t σ H Q ->
  wpAny (model X.prog X.w) X.A (evalPart e X.env) (fun u s'=>∃ o H',Inv X pins σ H' s'∧IsPart u o∧Q o H') X.xe s
def Jr:TO:=fun _ H Q=>Q none H
def Po (t:TE):TO:=fun σ H Q=>t σ H fun x H1=>∃ i,x = .int i∧Q (some i) H1
theorem yM {ns:List Int}:∀ {us:List Value},bT (ns.map V.int) us->IntsAre us ns:=by
 induction ns with
 | nil=>intro us r;rw [List.map_nil] at r;cases r;exact .nil
 | cons n ns ih =>
  intro us r;rw [List.map_cons] at r
  cases r with
  | cons r1 r2 =>
   obtain ⟨t,e⟩:=r1;subst e;exact .cons n t (ih r2)
section
variable {X:Cx}{e:Expr}{te:TE}{lo hi:Option Expr}{tl th:TO}{pos p2:Pos}
theorem bR:PO X none Jr:=by
 intro pins s σ H Q I h;rw [evalPart_none];exact wpAny_pure ⟨none,H,I,.none,h⟩
theorem bJ (h:PE X e te):PO X (some e) (Po te):=by
 intro pins s σ H Q I hw;rw [evalPart_some];refine thn (h pins s σ H _ I hw) fun u s1 ⟨x,H1,I1,r1,q1⟩=>?_
 obtain ⟨i,rfl,q⟩:=q1;obtain ⟨t,rfl⟩:=r1;exact ⟨some i,H1,I1,.int i t,q⟩
def SlR (X:Cx)(r:V->Option Int->Option Int->Hp->VK->Prop):Prop :=
 ∀ (pins:List (Addr×Obj)) (s:Shared) (σ:St) (H:Hp) (x:V) (v vl vu:Value) (lo hi:Option Int) (sl:Addr) (Q:VK),Inv X pins σ H s->bE x v->s.heap.IsSliceOf sl vl vu .none->IsPart vl lo->IsPart vu hi->r x lo hi H Q ->
  ∃ T id,typeLookup (.type T) "__getitem__" = pure (some (.builtin id))∧s.TypeIs v T∧wpAny (model X.prog X.w) X.A (getItem v (.ref sl)) (EP X pins σ Q) X.xe s
def tSl (r:V->Option Int->Option Int->Hp->VK->Prop)(te:TE)(tl th:TO):TE:=fun σ H Q=>te σ H fun x H1=>tl σ H1 fun l H2=>th σ H2 fun u H3=>r x l u H3 Q
theorem bC {r:V->Option Int->Option Int->Hp->VK->Prop}(hr:SlR X r)(he:PE X e te)(hl:PO X lo tl)(hu:PO X hi th):PE X (.Subscript e (.Slice lo hi none p2) pos) (tSl r te tl th):=by
 intro pins s σ H Q I h;refine Subscript_ (thn (he pins s σ H _ I h) fun v s1 ⟨x,H1,I1,r1,q1⟩=>?_);refine wpAny_Slice (thn (hl pins s1 σ H1 _ I1 q1) fun vl s2 ⟨l,H2,I2,pl,q2⟩=>thn (hu pins s2 σ H2 _ I2 q2) fun vu s3 ⟨u,H3,I3,pu,q3⟩=>?_);rw [evalPart_none];refine wpAny_pure ?_;have I4:Inv X pins σ H3 { s3 with heap:=s3.heap.push { cls:=.type "slice",data:=.fields #[vl,vu,.none] } }:=I3.kept (t':=s3.toks) fun b ob q=>Heap.get?_push_of_some _ q
 obtain ⟨T,id,hT,ht,hg⟩:=hr pins { s3 with heap:=s3.heap.push { cls:=.type "slice",data:=.fields #[vl,vu,.none] } } σ H3 x v vl vu l u s3.heap.objs.size Q I4 r1 (Heap.IsSliceOf.new ..) pl pu q3
 show wpAny (model X.prog X.w) X.A (subscriptTail e (.Slice lo hi none p2) v (.ref s3.heap.objs.size)) (EP X pins σ Q) X.xe { s3 with heap:=s3.heap.push { cls:=.type "slice",data:=.fields #[vl,vu,.none] } }
 exact tail_any (ops:=[.ref s3.heap.objs.size,v]) ht hT hg (by with_unfolding_all rfl)
def eE (xs:List V)(lo hi:Option Int):List V:=(xs.drop (HT.sIx xs.length 0 lo)).take (HT.sIx xs.length xs.length hi-HT.sIx xs.length 0 lo)
theorem xL (xs:List V)(lo hi:Option Int):(eE xs lo hi).length<=xs.length:=by
 unfold eE;rw [List.length_take,List.length_drop];omega
end
def ixN (n:Nat)(i:Int):Option Nat:=if 0<=i then (if i<n then some i.toNat else none) else if -(n:Int)<=i then some (i+n).toNat else none
def atI {α:Type}(xs:List α)(i:Int):Option α:=(ixN xs.length i).bind fun j=>xs[j]?
theorem Iz {n:Nat}{i:Int}{j:Nat}(h:ixN n i=some j):seqIndex? i n=some j∧j<n∧-(n:Int)<=i∧i<n:=by
 unfold ixN at h;by_cases h0:0<=i
 ·rw [if_pos h0] at h
  by_cases h1:i<n
  ·rw [if_pos h1] at h
   have e:i.toNat=j:=Option.some.inj h;exact ⟨by rw [seqIndex_of h0 h1,e],by omega,by omega,h1⟩
  ·rw [if_neg h1] at h;cases h
 ·rw [if_neg h0] at h
  by_cases h1 : -(n:Int)<=i
  ·rw [if_pos h1] at h
   have e:(i+n).toNat=j:=Option.some.inj h;exact ⟨by rw [seqIndex_neg (by omega) h1,e],by omega,h1,by omega⟩
  ·rw [if_neg h1] at h;cases h
theorem tP {α:Type}{xs:List α}{i:Int}{v:α}(h:atI xs i=some v):∃ j,seqIndex? i xs.length=some j∧xs[j]?=some v∧j<xs.length∧-(xs.length:Int)<=i∧i<xs.length:=by
 unfold atI at h
 cases e:ixN xs.length i with
 | none=>rw [e] at h;cases h
 | some j =>
  rw [e] at h;obtain ⟨h1,h2,h3,h4⟩:=Iz e;exact ⟨j,h1,h,h2,h3,h4⟩
theorem dS {α:Type}{xs:List α}{j:Nat}{v:α}(h:xs[j]?=some v):atI xs (j:Int)=some v:=by
 have hj:j<xs.length:=(List.getElem?_eq_some_iff.mp h).1;have e:ixN xs.length (j:Int)=some j:=by
  unfold ixN;rw [if_pos (by omega),if_pos (by omega)];simp
 unfold atI;rw [e];exact h
def Jt (b:Expr):Prop:=∀ o i,subscripted b false o i=operate [o,i] (getItem o i)
def IxR (X:Cx)(r:R2):Prop :=
 ∀ (value slice:Expr) (pins:List (Addr×Obj)) (s:Shared) (σ:St) (H:Hp) (x y:V) (v u:Value) (Q:VK),Inv X pins σ H s->bE x v->bE y u->r x y H Q ->
  subscripted slice false v u=operate [v,u] (getItem v u)->wpAny (model X.prog X.w) X.A (subscriptTail value slice v u) (EP X pins σ Q) X.xe s
def MtR (X:Cx)(id:String)(r:V->List V->Hp->VK->Prop):Prop :=
 ∀ (pins:List (Addr×Obj)) (s:Shared) (σ:St) (H:Hp) (x:V) (xs:List V) (v:Value) (us:List Value) (Q:VK),Inv X pins σ H s->bE x v->bT xs us->r x xs H Q ->
  wpAny (model X.prog X.w) X.A (call (.builtin id) (v::us)) (EP X pins σ Q) X.xe s
section
variable {X:Cx}{a b:Expr}{ta tb:TE}{pos:Pos}
theorem fV {r:R2}(hr:IxR X r)(ha:PE X a ta)(hb:PE X b tb)(hs:Jt b):PE X (.Subscript a b pos) (tOp r ta tb):=by
 intro pins s σ H Q I h;exact Subscript_ (Ld ha hb I h fun v u s2 x y H2 I2 rx ry q=>hr a b pins s2 σ H2 x y v u Q I2 rx ry q (hs _ _))
def Od (K:PySem.W.Frag):R2:=fun x y H Q=>∃ p xs i v,x = .ref p∧y = .int i∧SqL K H p xs∧atI xs i=some v∧Q v H
def Qc (K:PySem.W.Frag):R2:=fun x y H Q=>∃ p xs i v,x = .ref p∧y = .int i∧SqT K H p xs∧atI xs i=some v∧Q v H
def Qj:R2:=fun x y H Q=>∃ z i c,x = .str z∧y = .int i∧z.length<=sizeLine∧atI z.cps.toList i=some c∧Q (.str ⟨#[c]⟩) H
theorem dQ:IxR X (Od X.K):=by
 intro value slice pins s σ H x y v u Q I rx ry h hs;obtain ⟨p,xs,i,z,rfl,rfl,hq,he,q⟩:=h;cases rx;obtain ⟨t,rfl⟩:=ry;obtain ⟨its,r,pl,hz⟩:=I.list hq;obtain ⟨j,h1,h2,h3,h4,h5⟩:=tP he;obtain ⟨w,ew,rw'⟩:=r.get h2;have hl:=r.length;have hn:=pJ;have fin:EP X pins σ Q w s:=⟨z,H,I,rw',q⟩;by_cases h0:0<=i
 ·have hj:i.toNat=j:=by
   rw [seqIndex_of h0 h5] at h1;exact Option.some.inj h1
  exact item_listR pl.isList h0 (by omega) (by rw [hj];simpa using ew) fin hs
 ·have hj:(i+(its.toArray.size:Int)).toNat=j:=by
   rw [seqIndex_neg (by omega) h4] at h1;rw [List.size_toArray,<- hl];exact Option.some.inj h1
  exact subscriptTail_builtinR (x:=w) pl.isList.typeIs slot_list_getitem.lookup
   (wpAny_getItem_list_neg (Q:=fun r s'=>r=w∧EP X pins σ Q r s') pl.isList (by omega) (by rw [List.size_toArray] <;> omega) (by omega) (by rw [hj];simpa using ew) ⟨rfl,fin⟩) hs
theorem Le:IxR X (Qc X.K):=by
 intro value slice pins s σ H x y v u Q I rx ry h hs;obtain ⟨p,xs,i,z,rfl,rfl,hq,he,q⟩:=h;cases rx;obtain ⟨t,rfl⟩:=ry;obtain ⟨its,r,pl,hz⟩:=I.tuple hq;obtain ⟨j,h1,h2,h3,h4,h5⟩:=tP he;obtain ⟨w,ew,rw'⟩:=r.get h2;have hl:=r.length;have hn:=pJ;have fin:EP X pins σ Q w s:=⟨z,H,I,rw',q⟩;exact subscriptTail_builtinR (x:=w) pl.typeIs slot_tuple_getitem.lookup
  (getItem_tuple (j:=j) (Q:=fun r s'=>r=w∧EP X pins σ Q r s') pl (by omega) (by omega) (by rw [List.size_toArray,<- hl];exact h1) (by simpa using ew) ⟨rfl,fin⟩) hs
theorem Lw:IxR X Qj:=by
 intro value slice pins s σ H x y v u Q I rx ry h hs;obtain ⟨z,i,c,rfl,rfl,hz,he,q⟩:=h;obtain ⟨t,rfl⟩:=rx;obtain ⟨t',rfl⟩:=ry;obtain ⟨j,h1,h2,h3,h4,h5⟩:=tP he;have hl:z.cps.toList.length=z.length:=by simp [Str.length]
 rw [hl] at h1 h4 h5;have hn:=pJ;exact tail_any (typeIs_str s z t) slot_str_getitem.lookup (getItem_str (c:=c) (by
  have e1:decide (i < -(2 ^ 63:Int))=false:=decide_eq_false (by omega);have e2:decide (i≥2 ^ 63)=false:=decide_eq_false (by omega);rw [e1,e2,Bool.or_false]) (by rw [h1];simpa using h2) ⟨.str ⟨#[c]⟩,H,I.tok _,⟨_,rfl⟩,q⟩) hs
theorem tR (lo hi:Option Int)(n:Nat):(sliceBounds lo hi none n).1=((HT.sIx n 0 lo:Nat):Int)∧(sliceBounds lo hi none n).2.1=((HT.sIx n n hi:Nat):Int)∧(sliceBounds lo hi none n).2.2=1:=by
 refine ⟨?_,?_,rfl⟩
 ·cases lo with
  | none=>simp [sliceBounds,HT.sIx]
  | some i =>
   simp only [sliceBounds,HT.sIx,Option.getD_none,show (1:Int)>0 by decide,if_true];by_cases h:i<0
   ·simp only [h,if_true] <;> omega
   ·simp only [h,if_false] <;> omega
 ·cases hi with
  | none=>simp [sliceBounds,HT.sIx]
  | some i =>
   simp only [sliceBounds,HT.sIx,Option.getD_none,show (1:Int)>0 by decide,if_true];by_cases h:i<0
   ·simp only [h,if_true] <;> omega
   ·simp only [h,if_false] <;> omega
theorem rL (its:List Value)(lo hi:Option Int):slicePick its.toArray lo hi none=((its.drop (HT.sIx its.length 0 lo)).take (HT.sIx its.length its.length hi-HT.sIx its.length 0 lo)).toArray:=by
 obtain ⟨h1,h2,h3⟩:=tR lo hi its.toArray.size;unfold slicePick;rw [h1,h2,h3];simp only [sliceRange_one,pick_run,List.size_toArray] <;> rfl
def Px (K:PySem.W.Frag):V->Option Int->Option Int->Hp->VK->Prop:=fun x lo hi H Q=>∃ a xs,x = .ref a∧SqL K H a xs∧∀ p,H p=none->Q (.ref p) (upd H p (.lst (eE xs lo hi)))
theorem eX:SlR X (Px X.K):=by
 intro pins s σ H x v vl vu lo hi sl Q I rx hs pl pu h;obtain ⟨a,xs,rfl,hx,q⟩:=h;cases rx;obtain ⟨its,r,ht,hz⟩:=I.list hx;have hlen:=r.length;refine ⟨"list",_,slot_list_getitem.lookup,ht.isList.typeIs,?_⟩
 refine wpAny_getItem_list_slice ht.isList hs pl pu .none (by simp) ?_ (by rw [List.size_toArray] <;> omega);rw [rL,<- hlen];refine ⟨.ref s.heap.objs.size,_,I.laid (t':=s.toks) (o:=.lst (eE xs lo hi)) (fun b ob q=>Heap.get?_push_of_some _ q) (Nat.le_refl _) ?_,rfl,q _ (I.hok.fresh (Nat.le_refl _))⟩;exact ⟨Nat.le_trans (xL xs lo hi) hz,_,0,(r.drop (HT.sIx xs.length 0 lo)).take (HT.sIx xs.length xs.length hi-HT.sIx xs.length 0 lo),Heap.get?_push_size _ rfl⟩
def gY:V->Bool
 | .non=>true
 | .bl _=>true
 | .int _=>true
 | .str _=>true
 | _=>false
def eqV:V->V->Bool
 | .non,.non=>true
 | .bl a,.bl b=>a==b
 | .bl a,.int b=>(if a then 1 else 0)==b
 | .int a,.bl b=>a==(if b then 1 else 0)
 | .int a,.int b=>a==b
 | .str a,.str b=>a==b
 | _,_=>false
theorem Hw {A:Around}{s:Shared}{y x:V}{u v:Value}(ry:bE y u)(rx:bE x v)(fy:gY y=true)(fx:gY x=true):SeqAt.EqAt A s u v (eqV y x):=by
 cases y with
 | non =>
  cases ry
  cases x with
  | non=>cases rx;exact SeqAt.EqAt.same _
  | bl b=>cases rx;exact SeqAt.EqAt.none_bool b
  | int b=>obtain ⟨t,rfl⟩:=rx;exact SeqAt.EqAt.none_int b t
  | str b=>obtain ⟨t,rfl⟩:=rx;exact SeqAt.EqAt.none_str b t
  | _=>exact absurd (show false=true from fx) Bool.false_ne_true
 | bl a =>
  cases ry
  cases x with
  | non=>cases rx;exact SeqAt.EqAt.bool_none a
  | bl b=>cases rx;exact SeqAt.EqAt.bool_bool a b
  | int b=>obtain ⟨t,rfl⟩:=rx;exact SeqAt.EqAt.bool_int a b t
  | str b=>obtain ⟨t,rfl⟩:=rx;exact SeqAt.EqAt.bool_str a b t
  | _=>exact absurd (show false=true from fx) Bool.false_ne_true
 | int a =>
  obtain ⟨t',rfl⟩:=ry
  cases x with
  | non=>cases rx;exact SeqAt.EqAt.int_none a t'
  | bl b=>cases rx;exact SeqAt.EqAt.int_bool a t' b
  | int b=>obtain ⟨t,rfl⟩:=rx;exact SeqAt.EqAt.int_int a t' b t
  | str b=>obtain ⟨t,rfl⟩:=rx;exact SeqAt.EqAt.int_str a t' b t
  | _=>exact absurd (show false=true from fx) Bool.false_ne_true
 | str a =>
  obtain ⟨t',rfl⟩:=ry
  cases x with
  | non=>cases rx;exact SeqAt.EqAt.str_none a t'
  | bl b=>cases rx;exact SeqAt.EqAt.str_bool a t' b
  | int b=>obtain ⟨t,rfl⟩:=rx;exact SeqAt.EqAt.str_int a t' b t
  | str b=>obtain ⟨t,rfl⟩:=rx;exact SeqAt.EqAt.str_str a t' b t
  | _=>exact absurd (show false=true from fx) Bool.false_ne_true
 | _=>exact absurd (show false=true from fy) Bool.false_ne_true
def eqU (x:V)(u:Value):Bool:=match u with
 | .none=>eqV .non x
 | .bool b=>eqV (.bl b) x
 | .int i _=>eqV (.int i) x
 | .str z _=>eqV (.str z) x
 | _=>false
theorem yH {x y:V}{u:Value}(r:bE y u)(f:gY y=true):eqU x u=eqV y x:=by
 cases y with
 | non=>cases r;rfl
 | bl b=>cases r;rfl
 | int i=>obtain ⟨t,rfl⟩:=r;rfl
 | str z=>obtain ⟨t,rfl⟩:=r;rfl
 | _=>exact absurd (show false=true from f) Bool.false_ne_true
theorem lV {x:V}:∀ {xs:List V} {us:List Value},bT xs us->xs.all gY=true->us.any (eqU x)=xs.any fun y=>eqV y x
 | _,_,.nil,_=>rfl
 | y::xs,u::us,.cons r t,f=>by
  rw [List.all_cons,Bool.and_eq_true] at f;rw [List.any_cons,List.any_cons,yH r f.1,lV t f.2]
theorem iA {A:Around}{s:Shared}{x:V}{v:Value}(rx:bE x v)(fx:gY x=true):∀ {xs:List V} {us:List Value},bT xs us->xs.all gY=true->∀ u∈us,SeqAt.EqAt A s u v (eqU x u)
 | _,_,.nil,_=>fun u hu=>by cases hu
 | y::xs,u::us,.cons r t,f=>fun u' hu=>by
  rw [List.all_cons,Bool.and_eq_true] at f;rcases List.mem_cons.mp hu with rfl | hu
  ·rw [yH r f.1];exact Hw r rx f.1 fx
  ·exact iA rx fx t f.2 u' hu
def inV (x:V)(xs:List V):Bool:=xs.any fun y=>eqV y x
def rIn (K:PySem.W.Frag)(neg:Bool):R2:=fun x y H Q=>∃ p xs,y = .ref p∧(SqL K H p xs∨SqT K H p xs)∧gY x=true∧xs.all gY=true∧Q (.bl (if neg then !inV x xs else inV x xs)) H
theorem Cf:OpR X (compareOp .In) (rIn X.K false):=by
 intro pins s σ H x y v u Q I rx ry h;obtain ⟨p,xs,rfl,hq,fx,fs,q⟩:=h;cases ry;rcases hq with hq | hq
 ·obtain ⟨its,r,pl,hz⟩:=I.list hq
  refine SeqAt.in_listAt (eqU x) pl.isList (fun w hw=>iA rx fx r fs w (by simpa using hw)) ⟨.bl _,H,I,rfl,?_⟩;rw [show its.toArray.any (eqU x)=its.any (eqU x) by simp,lV r fs];exact q
 ·obtain ⟨its,r,pl,hz⟩:=I.tuple hq
  refine SeqAt.in_tupleAt (eqU x) pl (fun w hw=>iA rx fx r fs w (by simpa using hw)) ⟨.bl _,H,I,rfl,?_⟩;rw [show its.toArray.any (eqU x)=its.any (eqU x) by simp,lV r fs];exact q
theorem gH:OpR X (compareOp .NotIn) (rIn X.K true):=by
 intro pins s σ H x y v u Q I rx ry h;obtain ⟨p,xs,rfl,hq,fx,fs,q⟩:=h;cases ry;rcases hq with hq | hq
 ·obtain ⟨its,r,pl,hz⟩:=I.list hq
  refine SeqAt.notIn_listAt (eqU x) pl.isList (fun w hw=>iA rx fx r fs w (by simpa using hw)) ⟨.bl _,H,I,rfl,?_⟩;rw [show its.toArray.any (eqU x)=its.any (eqU x) by simp,lV r fs];exact q
 ·obtain ⟨its,r,pl,hz⟩:=I.tuple hq
  refine SeqAt.notIn_tupleAt (eqU x) pl (fun w hw=>iA rx fx r fs w (by simpa using hw)) ⟨.bl _,H,I,rfl,?_⟩;rw [show its.toArray.any (eqU x)=its.any (eqU x) by simp,lV r fs];exact q
theorem aY:eI X (.builtin "len") (fun xs H Q=>∃ p ys,xs=[.ref p]∧(SqL X.K H p ys∨SqT X.K H p ys)∧Q (.int ys.length) H):=by
 intro pins s σ H xs us Q I r h;obtain ⟨p,ys,rfl,hq,q⟩:=h;obtain ⟨u,rfl,rx⟩:=fU r;cases rx;have hn:=pJ;rcases hq with hq | hq
 ·obtain ⟨its,r',pl,hz⟩:=I.list hq
  have hlen:=r'.length;exact Calls.call_len_list pl.isList (by simp only [List.size_toArray] <;> omega) ⟨.int ys.length,H,I.tok _,⟨s.toks+1,by rw [List.size_toArray,hlen]⟩,q⟩
 ·obtain ⟨its,r',pl,hz⟩:=I.tuple hq
  have hlen:=r'.length;exact len_tuple pl (by simp only [List.size_toArray] <;> omega) ⟨.int ys.length,H,I.tok _,⟨s.toks+1,by rw [List.size_toArray,hlen]⟩,q⟩
theorem vI:eI X (.builtin "len") (fun xs H Q=>∃ z,xs=[.str z]∧z.length<=sizeLine∧Q (.int z.length) H):=by
 intro pins s σ H xs us Q I r h;obtain ⟨z,rfl,hz,q⟩:=h;obtain ⟨u,rfl,t,rfl⟩:=fU r;have hn:=pJ;exact len_str (by omega) ⟨.int z.length,H,I.tok _,⟨_,rfl⟩,q⟩
theorem mC:eI X (.type "list") (fun xs H Q=>∃ p ys,xs=[.ref p]∧(SqL X.K H p ys∨SqT X.K H p ys)∧∀ l,H l=none->Q (.ref l) (upd H l (.lst ys))):=by
 intro pins s σ H xs us Q I r h;obtain ⟨p,ys,rfl,hq,q⟩:=h;obtain ⟨u,rfl,rx⟩:=fU r;cases rx;have fin:∀ (its:List Value),bT ys its->ys.length<=sizeLine->∀ (h':Heap) (c':Nat),(∀ b o',s.heap.get? b=some o'->h'.get? b=some o') ->
   h'.get? s.heap.objs.size=some { cls:=.type "list",dict:=none,data:=.seq its.toArray c',slots:=#[] }->EP X pins σ Q (.ref s.heap.objs.size) { s with heap:=h' }:=fun its r' hz h' c' kp e =>
  ⟨.ref s.heap.objs.size,_,I.laid (t':=s.toks) kp (Nat.le_refl _) (show cG X.prog X.w _ h' _ (.lst ys) from ⟨hz,its,c',r',e⟩),rfl,q _ (I.hok.fresh (Nat.le_refl _))⟩
 rcases hq with hq | hq
 ·obtain ⟨its,r',pl,hz⟩:=I.list hq
  have hlen:=r'.length;obtain ⟨o,ho,hc,n,hd⟩:=pl.isList;exact call_list_seq p (.inl rfl) ho hc hd (fun h' c' kp e=>fin its r' hz h' c' kp e) (by simp only [List.size_toArray] <;> omega)
 ·obtain ⟨its,r',pl,hz⟩:=I.tuple hq
  have hlen:=r'.length;obtain ⟨o,ho,hc,n,hd⟩:=pl;exact call_list_seq p (.inr rfl) ho hc hd (fun h' c' kp e=>fin its r' hz h' c' kp e) (by simp only [List.size_toArray] <;> omega)
theorem kJ:eI X (.type "tuple") (fun xs H Q=>∃ p ys,xs=[.ref p]∧((SqL X.K H p ys∧∀ l,H l=none->Q (.ref l) (upd H l (.tup ys)))∨(SqT X.K H p ys∧Q (.ref p) H))):=by
 intro pins s σ H xs us Q I r h;obtain ⟨p,ys,rfl,h⟩:=h;obtain ⟨u,rfl,rx⟩:=fU r;cases rx;rcases h with ⟨hq,q⟩ | ⟨hq,q⟩
 ·obtain ⟨its,r',pl,hz⟩:=I.list hq
  have hlen:=r'.length;refine call_tuple_list pl.isList (fun h' kp=>?_) (by simp only [List.size_toArray] <;> omega);have I1:Inv X pins σ H { s with heap:=h' }:=I.kept (t':=s.toks) kp;have I2:Inv X pins σ (upd H h'.objs.size (.tup ys)) { s with heap:=h'.push { cls:=.type "tuple",data:=.seq its.toArray } } :=
   I1.laid (t':=s.toks) (fun b o e=>Heap.get?_push_of_some _ e) (Nat.le_refl _) (show cG X.prog X.w _ _ _ (.tup ys) from ⟨hz,its,r',IsTup.new _ _⟩)
  exact ⟨.ref h'.objs.size,_,I2,rfl,q _ (I1.hok.fresh (Nat.le_refl _))⟩
 ·obtain ⟨its,r',pl,hz⟩:=I.tuple hq
  exact call_tuple_same pl ⟨.ref p,H,I,rfl,q⟩
def tyV (K:PySem.W.Frag)(T:String)(x:V)(H:Hp):Prop:=match x with
 | .str _=>T = "str"
 | .int _=>T = "int"
 | .ref p=>(T = "list" ∧ ∃ xs,SqL K H p xs)∨(T = "tuple" ∧ ∃ o,K.lookup p=some o∧o.cls = .type "tuple" ∧ o.dict=none) ∨
  (T = "dict" ∧ ((∃ kvs,H p=some (.dK kvs))∨∃ kvs,H p=some (.dT kvs)))∨(T = "set" ∧ ∃ S n,H p=some (.set S n))
 | _=>False
theorem Gx {pins:List (Addr×Obj)}{σ:St}{H:Hp}{s:Shared}{T:String}{x:V}{v:Value}(I:Inv X pins σ H s)(r:bE x v)(ty:tyV X.K T x H) :
  s.TypeIs v T∧∀ a,v = .ref a->∃ ob,s.heap.get? a=some ob∧ob.dict=none:=by
 cases x with
 | str z =>
  obtain ⟨t,rfl⟩:=r;cases (show T = "str" from ty)
  exact ⟨typeIs_str s z t,fun _ e=>nomatch e⟩
 | int i =>
  obtain ⟨t,rfl⟩:=r;cases (show T = "int" from ty)
  exact ⟨typeIs_int s i t,fun _ e=>nomatch e⟩
 | ref p =>
  cases r;rcases ty with ⟨rfl,xs,hq⟩ | ⟨rfl,o,hk,hc,hd⟩ | ⟨rfl,hk⟩ | ⟨rfl,S,n,hk⟩
  ·obtain ⟨its,_,pl,_⟩:=I.list hq
   refine ⟨pl.isList.typeIs,fun a e=>?_⟩;cases e;obtain ⟨o,n,e,c,hd,_⟩:=pl;exact ⟨o,e,hd⟩
  ·refine ⟨⟨o,I.kIn p o hk,hc⟩,fun a e=>?_⟩
   cases e;exact ⟨o,I.kIn _ o hk,hd⟩
  ·have z:∃ o,s.heap.get? p=some o∧o.ExactDict:=by
    rcases hk with ⟨kvs,hk⟩ | ⟨kvs,hk⟩
    ·obtain ⟨_,_,_,_,o,_,_,e,ex,_⟩:=I.hok p _ hk
     exact ⟨o,e,ex⟩
    ·obtain ⟨_,_,_,_,o,_,_,e,ex,_⟩:=I.hok p _ hk
     exact ⟨o,e,ex⟩
   obtain ⟨o,e,ex⟩:=z;refine ⟨⟨o,e,ex.1⟩,fun a e2=>?_⟩;cases e2;exact ⟨o,e,ex.2.1⟩
  ·obtain ⟨o,_,_,_,e,ex,_⟩:=I.hok p _ hk
   refine ⟨⟨o,e,ex.1⟩,fun a e2=>?_⟩;cases e2;exact ⟨o,e,ex.2.1⟩
 | _=>exact False.elim ty
def Py (K:PySem.W.Frag)(T:String)(r:V->List V->Hp->VK->Prop)(to:TE):TE:=fun σ H Q=>to σ H fun x H1=>tyV K T x H1∧r x [] H1 Q
def tBM (K:PySem.W.Frag)(T:String)(r:V->List V->Hp->VK->Prop)(to:TE)(t:TA):TE:=fun σ H Q=>to σ H fun x H1=>tyV K T x H1∧t σ H1 fun xs H2=>r x xs H2 Q
variable {o e:Expr}{es:List Expr}{to:TE}{t:TA}{name:Str}{apos cpos:Pos}{T id:String}{r:V->List V->Hp->VK->Prop}
theorem Lv (pa:PlainAttrs T)(slot:Slot T name id)(hty:typeOf (.builtin id)=pure (.type "method_descriptor"))(hm:MtR X id r)(ho:PE X o to)
  (hbase:attributeBase o name X.env (eval o X.env)=eval o X.env:=by rfl) (hline:(apos.endLine==cpos.line)=true:=by rfl):PE X (.Call (.Attribute o name apos) [] [] cpos) (Py X.K T r to):=by
 intro pins s σ H Q I h;refine wpAny_Call_method0_late hbase hline (thn (ho pins s σ H _ I h) fun v s1 ⟨x,H1,I1,r1,ty,q1⟩=>?_);obtain ⟨h1,h2⟩:=Gx I1 r1 ty;exact ⟨T,id,pa,slot,hty,h1,h2,Calls.callWith_builtin rfl (PySem.evalArgs_none (hm pins s1 σ H1 x [] v [] Q I1 r1 .nil q1))⟩
theorem lR (pa:PlainAttrs T)(slot:Slot T name id)(hty:typeOf (.builtin id)=pure (.type "method_descriptor"))(hm:MtR X id r)(ho:PE X o to)(ha:PA X (e::es) t)
  (hbase:attributeBase o name X.env (eval o X.env)=eval o X.env:=by rfl)
  (hfew:((backTo cpos (starEach (e::es) X.env)).all (fun x=>!x.1)&&(backToKw cpos (keywordEach [] X.env)).all (fun x=>x.1.isSome)
   && decide ((e::es).length+([]:List Keyword).length+(if ([]:List Keyword).isEmpty then 0 else 1)<30))=true:=by rfl)
  (hline:(apos.endLine==cpos.line)=true:=by rfl) (hs:starEach (e::es) X.env=(false,eval e X.env)::starEach es X.env:=by rfl) (hplain:(backTo cpos (starEach es X.env)).any (·.1)=false:=by rfl) :
  PE X (.Call (.Attribute o name apos) (e::es) [] cpos) (tBM X.K T r to t):=by
 intro pins s σ H Q I h;refine wpAny_Call_method_late hbase hfew hline rfl (thn (ho pins s σ H _ I h) fun v s1 ⟨x,H1,I1,r1,ty,q1⟩=>?_);obtain ⟨h1,h2⟩:=Gx I1 r1 ty;refine ⟨T,id,pa,slot,hty,h1,h2,?_⟩;have hA:=ha cpos pins s1 σ H1 _ I1 q1;rw [hs] at hA ⊢;refine Calls.callWith_builtin (by show (false||(backTo cpos (starEach es X.env)).any (·.1))=false;rw [hplain] <;> rfl) (Calls.evalArgs_plain ?_);exact thn hA fun us s2 ⟨vs,H2,I2,r2,q2⟩=>hm pins s2 σ H2 x vs v us Q I2 r1 r2 q2
end
def MtM (X:Cx)(id:String)(r:V->List V->Hp->VK->Prop):Prop :=
 ∀ (pins:List (Addr×Obj)) (s:Shared) (σ:St) (H:Hp) (x:V) (xs:List V) (v:Value) (us:List Value) (Q:VK),Inv X pins σ H s->bE x v->bT xs us->r x xs H Q ->
  wpAny (model X.prog X.w) X.A (call (.builtin id) (v::us)) (EP X pins σ Q) X.xe s
theorem bT.one:∀ {x:V} {us:List Value},bT [x] us->∃ u,us=[u]∧bE x u
 | _,_,.cons r .nil=>⟨_,rfl,r⟩
theorem bT.zero:∀ {us:List Value},bT [] us->us=[]
 | _,.nil=>rfl
theorem bT.dropLast {xs:List V}{us:List Value}(h:bT xs us):bT xs.dropLast us.dropLast:=by
 induction h with
 | nil=>exact .nil
 | cons r t ih =>
  cases t with
  | nil=>exact .nil
  | cons q t'=>exact .cons r ih
theorem yE {α:Type}(l:List α):l.eraseIdx (l.length-1)=l.dropLast:=by
 induction l with
 | nil=>rfl
 | cons a r ih =>
  cases r with
  | nil=>rfl
  | cons b r =>
   have e:(a::b::r).length-1=((b::r).length-1)+1:=by
    have h1:(a::b::r).length=r.length+2:=rfl;have h2:(b::r).length=r.length+1:=rfl;omega
   rw [e,List.eraseIdx_cons_succ,ih]
   all_goals rfl
section
variable {X:Cx}{pins:List (Addr×Obj)}{σ:St}{H:Hp}{s:Shared}{l b:Addr}{xs ys zs:List V}
theorem Inv.lset {its its':List Value}{n:Nat}{f:Array Value->Array Value}{t':Nat}(I:Inv X pins σ H s)(hH:H l=some (.lst xs))
  (e:s.heap.get? l=some { cls:=.type "list",data:=.seq its.toArray n }) (hf:f its.toArray=its'.toArray) (hv:bT ys its') (hz:ys.length<=sizeLine) :
  Inv X pins σ (upd H l (.lst ys)) { s with heap:=s.heap.update l (Obj.mapSeq f),toks:=t' }:=by
 have q:=PySem.IsL.update e f;rw [hf] at q;refine I.write (x:=l) (e:=l) (by rw [hH];exact trivial) (.inl rfl) (fun b' u hb hu=>(Heap.get?_update_other s.heap (Obj.mapSeq f) (Ne.symm hb)).trans hu) ⟨_,q⟩ ?_;exact ⟨hz,its',_,hv,q⟩
theorem Inv.lnew {its:List Value}{t':Nat}(I:Inv X pins σ H s)(hv:bT ys its)(hz:ys.length<=sizeLine) :
  Inv X pins σ (upd H s.heap.objs.size (.lst ys)) { s with heap:=s.heap.push { cls:=.type "list",data:=.seq its.toArray },toks:=t' } :=
 I.laid (fun _ _ q=>Heap.get?_push_of_some _ q) (Nat.le_refl _) ⟨hz,its,0,hv,Heap.get?_push_size _ rfl⟩
theorem Inv.fresh (I:Inv X pins σ H s):H s.heap.objs.size=none:=I.hok.fresh (Nat.le_refl _)
theorem Inv.lstM (I:Inv X pins σ H s)(hH:H l=some (.lst xs)):xs.length<=sizeLine∧∃ (its:List Value) (n:Nat),bT xs its∧xs.length=its.length∧s.heap.get? l=some { cls:=.type "list",data:=.seq its.toArray n }:=by
 obtain ⟨z,its,n,r,e⟩:=I.hok l _ hH;exact ⟨z,its,n,r,r.length,e⟩
theorem Hn {n:Nat}(h:n<=sizeLine):Builtin.List.listTooLong n=false:=by
 unfold Builtin.List.listTooLong;exact decide_eq_false (by omega)
end
section
variable {X:Cx}
def Io:V->List V->Hp->VK->Prop:=fun x vs H Q=>∃ l xs y,x = .ref l∧vs=[y]∧H l=some (.lst xs)∧xs.length<sizeLine∧Q .non (upd H l (.lst (xs++[y])))
theorem eU:MtM X "list.append" Io:=by
 intro pins s σ H x vs v us Q I rx rv h;obtain ⟨l,xs,y,rfl,rfl,hH,hz,q⟩:=h;cases rx;obtain ⟨u,rfl,ru⟩:=rv.one;obtain ⟨z,its,n,r,hl,e⟩:=I.lstM hH;refine call_meets F.slot_list_append ⟨_,e,rfl⟩ F.entry_list_append (F.args_list_append_2 _ _) (PySem.list_append l its.toArray n u (by rw [List.size_toArray];omega)) ⟨e,?_⟩;refine ⟨.non,_,I.lset (its':=its++[u]) hH e (by simp) (r.append (.cons ru .nil)) ?_,rfl,q⟩;rw [List.length_append,List.length_singleton];omega
def Ir:V->List V->Hp->VK->Prop:=fun x vs H Q=>∃ l b xs zs,x = .ref l∧vs=[.ref b]∧H l=some (.lst xs)∧H b=some (.lst zs)∧xs.length+zs.length<=sizeLine∧Q .non (upd H l (.lst (xs++zs)))
theorem Dk:MtM X "list.extend" Ir:=by
 intro pins s σ H x vs v us Q I rx rv h;obtain ⟨l,b,xs,zs,rfl,rfl,hH,hB,hz,q⟩:=h;cases rx;obtain ⟨u,rfl,ru⟩:=rv.one;cases ru;obtain ⟨z,its,n,r,hl,e⟩:=I.lstM hH;obtain ⟨z2,its2,n2,r2,hl2,e2⟩:=I.lstM hB;have hsz:its.toArray.size+its2.toArray.size<=sizeLine:=by rw [List.size_toArray,List.size_toArray];omega
 have hlong:¬ (!its.toArray.isEmpty&&Builtin.List.listTooLong (its.toArray.size+its2.toArray.size))=true:=by
  rw [Hn hsz,Bool.and_false];exact Bool.false_ne_true
 refine call_meets F.slot_list_extend ⟨_,e,rfl⟩ F.entry_list_extend (F.args_list_extend_2 _ _)
  (AutoSeq1.list_extend_list_list_0 l its.toArray n b its2.toArray n2 hlong (by rw [List.size_toArray];omega) (by omega)) ⟨e,e2,?_⟩
 refine ⟨.non,_,I.lset (its':=its++its2) hH e (by simp) (r.append r2) ?_,rfl,q⟩;rw [List.length_append];omega
def Pt:V->List V->Hp->VK->Prop:=fun x vs H Q=>∃ l xs y,x = .ref l∧vs=[]∧H l=some (.lst xs)∧xs[xs.length-1]?=some y∧Q y (upd H l (.lst xs.dropLast))
theorem Ll:MtM X "list.pop" Pt:=by
 intro pins s σ H x vs v us Q I rx rv h;obtain ⟨l,xs,y,rfl,rfl,hH,hy,q⟩:=h;cases rx;have hus:=rv.zero;subst hus;obtain ⟨z,its,n,r,hl,e⟩:=I.lstM hH;obtain ⟨u,hu,ru⟩:=r.get hy;have hy':its.toArray[its.toArray.size-1]?=some u:=by
  show its.toArray[its.length-1]?=some u;rw [<- Array.getElem?_toList,<- hl];exact hu
 refine call_meets F.slot_list_pop ⟨_,e,rfl⟩ F.entry_list_pop (F.args_list_pop_1 _) (MeetsSeq.list_pop_last l its.toArray n u hy' (by rw [List.size_toArray];omega)) ⟨e,?_⟩;refine ⟨y,_,I.lset (its':=its.dropLast) hH e ?_ r.dropLast ?_,ru,q⟩
 ·show its.toArray.eraseIdxIfInBounds (its.toArray.size-1)=its.dropLast.toArray
  rw [List.size_toArray,List.eraseIdxIfInBounds_toArray,yE]
 ·rw [List.length_dropLast]
  omega
end
section
variable {prog:Program}{w:World}{A:Around}{E:Value->Shared->Prop}{s:Shared}
end
section
variable {X:Cx}
end
end L2
namespace Att
open PySem PySem.W PySem.Calls PyProof.Rows
theorem oB {P:Params}{h:Heap}:∀ (ns:List Int) (vs:List Value),WellAll P h vs (ns.map WData.int)->IntsAre vs ns:=by
 intro ns
 induction ns with
 | nil =>
  intro vs w;rw [List.map_nil] at w;cases w;exact .nil
 | cons n ns ih =>
  intro vs w;rw [List.map_cons] at w
  cases w with
  | cons a b =>
   cases a;exact .cons _ _ (ih _ b)
theorem Ct {l:OpenLaw}{n:Nat}(hn:l.most=some n){P:Params}{h:Heap}{args:List WData}{vals:List Value}
  (hpre:l.row.toRowW.claim.pre args=true) (hwl:WellAll P h vals args) :
  ∃ a vs ns,vals=[Value.ref a]∧args=[WData.list (ns.map WData.int)]∧h.get? a=some { cls:=.type "list",data:=.seq vs.toArray }∧IntsAre vs ns∧ns.length<=n:=by
 have hsh:WShape.hasAll [] args [.list .int]=true:=(pre_splitW hpre).1;have hc:l.pre.holds [] { args:=args }=true:=(pre_splitW hpre).2;obtain ⟨d,r,rfl,h1,h2⟩:=hasAllW_cons hsh;obtain rfl:=hasAllW_nil h2;obtain ⟨xs,rfl,h3⟩:=hasW_list h1;obtain ⟨ns,rfl⟩:=items_int h3;have hlen:ns.length<=n:=by
  unfold OpenLaw.pre at hc;have h4:(WTm.not (.lt (.lit (.int (n:Int))) (.len (.arg 0)))).holds [] { args:=[.list (ns.map .int)] }=true:=by
   have h4:=(holds_andW hc).1;rw [hn] at h4;exact h4
  have h5:=condW_of h4 (w_not (w_lt w_lit (w_len_list (w_arg rfl))));rw [List.length_map] at h5;refine Nat.le_of_not_lt fun q=>?_
  have q':(n:Int)<((ns.length:Nat):Int):=by omega
  first
   | (rw [decide_eq_true q'] at h5;exact absurd h5 (by decide))
   | (simp at h5;omega)
 cases hwl with
 | cons w1 w2 =>
  cases w2
  cases w1 with
  | list ho hall=>exact ⟨_,_,ns,rfl,rfl,ho,oB ns _ hall,hlen⟩
theorem Ch (l:OpenLaw)(args:List WData):l.row.toRowW.claim.post args (.bool true) args=true :=
 postW_of (r:=l.row.toRowW) (X:=(true==true))
  (show WShape.has [] (.bool true) .bool=true by first | rfl | decide | simp [WShape.has,WShape.arms,WShape.armsAll])
  (show (WTm.eq .res (.lit (.bool true))).value [] { args:=args,res:=some (.bool true),after:=args }=some (.bool (true==true)) from w_eq_bool (w_res rfl) w_lit) rfl
theorem wV {l:OpenLaw}{n:Nat}{q:Program}{loose:List Str}{XP:(Str->Option Value)->Heap->Prop}{YP:World->Heap->Prop}{d:DefRec}
  (hn:l.most=some n) (hdf:d.params.defaults=[])
  (call:∀ (w:World) (s₀ s₁:Shared) (mg mb:Str->Option Value) (fa:Addr) (o:Obj) (pm cd doc:Value) (a:Addr) (vs:List Value) (ns:List Int),
   Ground q loose [] XP w s₀ mg mb s₁.heap->YP w s₁.heap ->
   s₁.heap.get? fa=some o->o.data = .func (docDef d.name d.params d.body d.scope pm cd doc)->s₁.heap.CodeRec cd d.name->mg d.name=some (.ref fa) ->
   s₁.heap.get? a=some { cls:=.type "list",data:=.seq vs.toArray }->IntsAre vs ns->ns.length<=n->s₁.gens = #[] ->
   codeAny (model l.prog w) callerA (.call (.ref fa) ⟨[.ref a],[]⟩) (fun r s'=>r = .ok (.ret (.bool true))∧OldK s₁.heap s'.heap∧s'.os=s₁.os∧AllBare s'.gens) s₁) :
  WalkO q loose XP YP l.row.toRowW d [] (fun f vs=>PySem.call f vs):=by
 intro w s₀ s₁ mg mb G Y fa o pm cd doc dV kV ho hd hcd hD hmg hg args vals as hpre hlay hrd hwl hlo;obtain rfl:dV = .none:=Dflts.none hD hdf;obtain rfl:kV = .none:=Dflts.noKw hD;obtain ⟨a,vs,ns,rfl,rfl,hobj,hints,hlen⟩:=Ct hn hpre hwl;refine enter_call (codeAny_mono (call w s₀ s₁ mg mb fa o pm cd doc a vs ns G Y ho (fd_plain hd) hcd hmg hobj hints hlen hg) fun r s' hq=>?_);obtain ⟨rfl,h2,h3,h4⟩:=hq;exact ⟨.inl ⟨.bool true,.bool true,[],rfl,fun _=>rfl,.bool true,Ch l _,fun _=>⟨List.Pairwise.nil,fun _ hm=>(nomatch hm)⟩⟩,h2,h3,h4⟩
section
variable {prog:Program}{w:World}{A:Around}{E:Value->Shared->Prop}{s:Shared}{K:Frag}
end
end Att
namespace L2
open PySem PySem.Spec PyProof.Rows
theorem mO:∀ {vs:List Value} {ns:List Int},IntsAre vs ns->bT (ns.map V.int) vs
 | _,_,.nil=>.nil
 | _,_,.cons n t h=>.cons ⟨t,rfl⟩ (mO h)
def Mh (H:Hp):Prop:=∀ b,H b=none∨∃ o xs,H b=some (.frz o (.lst xs))
theorem Ew {P:Program}{w:World}{K:PySem.W.Frag}{mg mb:Str->Option Value}{CX:CXT}{k:Nat}{fa a:Addr}{fd:FuncData}{x:Str}{sp:Sp}{s₁:Shared}{vs:List Value}{ns:List Int}
  (KX:K.In s₁.heap) (hns:s₁.heap.Ns mainGlobals mg) (hb:s₁.heap.Ns builtinsNs mb) (hbb:∀ x:Str,x ≠ "__name__" -> mb x=bootBuiltins x) (hlim:s₁.heap.NoLimit) (hg:s₁.gens = #[])
  (ha:s₁.heap.get? a=some { cls:=.type "list",data:=.seq vs.toArray }) (hi:IntsAre vs ns) (hl:ns.length<=sizeLine) (hr:gD k callerA)
  (F:∀ base:Heap,K.In base->base.Ns mainGlobals mg->cO P w K mg base CX k fa fd [x] sp) (hbind:∀ (s:Shared) (u:Value),BindsTo s fd ⟨[u],[]⟩ [(x,u)])
  (hsp:∀ H:Hp,Mh H->SqL K H a (ns.map V.int)->sp [.ref a] H (fun v _=>v = .bl true) fun _ _ _=>False)
  (hCX:∀ H e s',CX [] H s₁ (fun _ _ _=>False) e s'->False) :
  codeAny (model P w) callerA (.call (.ref fa) ⟨[.ref a],[]⟩) (fun r s'=>r = .ok (.ret (.bool true))∧OldK s₁.heap s'.heap∧s'.os=s₁.os∧AllBare s'.gens) s₁:=by
 have rv:=mO hi;have lenV:=hi.length;have core:∀ H:Hp,Mh H->SqL K H a (ns.map V.int)->HOk P w H s₁.heap->(∀ b,H b≠none->b=a)->(H a≠none->K.lookup a=none) ->
   codeAny (model P w) callerA (.call (.ref fa) ⟨[.ref a],[]⟩) (fun r s'=>r = .ok (.ret (.bool true))∧OldK s₁.heap s'.heap∧s'.os=s₁.os∧AllBare s'.gens) s₁:=by
  intro H hO hS hok hA hK;have base_of:∀ {b:Addr} {o:Obj},s₁.heap.get? b=some o->H b=none->(tU s₁.heap H).get? b=some o:=fun e n=>Fe e n
  have noA:∀ {b:Addr} {o:Obj} {es:Array DictEntry} {ep:Nat},s₁.heap.get? b=some o->o.data = .dict es ep->H b=none:=fun {b o es ep} e d=>by
   cases q:H b with
   | none=>rfl
   | some u =>
    have e':b=a:=hA b (by rw [q];simp);subst e';rw [ha] at e;cases e;have d':Data.seq vs.toArray _=Data.dict es ep:=d;cases d'
  have nsK:∀ {b:Addr} {m:Str->Option Value},s₁.heap.Ns b m->(tU s₁.heap H).Ns b m:=fun {b m} ⟨o,es,ep,e,d,r⟩=>⟨o,es,ep,base_of e (noA e d),d,r⟩
  have hKb:K.In (tU s₁.heap H):=fun b o e=>base_of (KX b o e) (by
   cases q:H b with
   | none=>rfl
   | some u =>
    have e':b=a:=hA b (by rw [q];simp);subst e';rw [hK (by rw [q];simp)] at e;cases e)
  have hM:Mod K mg (tU s₁.heap H):=⟨hKb,nsK hns,⟨mb,nsK hb,hbb⟩,let ⟨mc,h1,h2⟩:=hlim;⟨mc,nsK h1,h2⟩⟩;have e0:zE P w K mg (tU s₁.heap H) callerA [] s₁ H:=⟨rfl,hM,fun b o e=>Ig e,Nat.le_of_eq (Bx _ _),trivial,fun b hb=>absurd (show b∈([]:List Addr) from hb) (by simp),hok,.of_eq hg⟩;refine codeAny_mono ((F _ hKb (nsK hns)).run callerA [] s₁ H ⟨[.ref a],[]⟩ [.ref a] [.ref a] _ _ hr e0 (hbind s₁ (.ref a)) (.cons rfl .nil) (hsp H hO hS)) fun r s' h=>?_
  cases r with
  | error e=>exact (hCX H e s' h).elim
  | ok fl =>
   cases fl with
   | next=>exact False.elim h
   | brk=>exact False.elim h
   | cont=>exact False.elim h
   | ret u =>
    obtain ⟨v,H',os,bare,un,hok',r',q⟩:=h;have q':v = .bl true:=q;subst q';obtain rfl:u=Value.bool true:=r';refine ⟨rfl,OldK.of_keep fun b o e=>?_,os,bare⟩
    cases q:H b with
    | none=>exact un.keep b o e q (by intro z;exact absurd (show b∈([]:List Addr) from z) (by simp)) (by simp)
    | some u =>
     rcases hO b with z | ⟨ob,xs,z⟩
     ·rw [q] at z;cases z
     ·have z2:=un.frzs b ob _ z
      obtain ⟨e1,_⟩:=hok b _ z;obtain ⟨e2,_⟩:=hok' b _ z2;rw [e] at e1;cases e1;exact e2
 cases hk:K.lookup a with
 | some o =>
  have e:=KX a o hk;rw [ha] at e;cases e;refine core (fun _=>none) (fun _=>.inl rfl) (.inr ⟨_,vs.toArray,_,hk,rfl,rfl,rfl,by rw [List.size_toArray,lenV];exact hl,by simpa using rv⟩) (fun b u z=>by have z':(none:Option HO)=some u:=z;cases z') (fun b z=>absurd rfl z) fun z=>absurd rfl z
 | none =>
  refine core (fun b=>if b=a then some (.frz { cls:=.type "list",data:=.seq vs.toArray } (.lst (ns.map V.int))) else none) (fun b=>?_) (.inl (.inr ⟨{ cls:=.type "list",data:=.seq vs.toArray },if_pos rfl⟩)) (fun b u z=>?_) (fun b z=>?_) fun _=>hk
  ·by_cases hb:b=a
   ·exact .inr ⟨_,_,if_pos hb⟩
   ·exact .inl (if_neg hb)
  ·by_cases hb:b=a
   ·have z':=(if_pos hb).symm.trans z
    cases z';subst hb;exact ⟨ha,by rw [List.length_map];exact hl,vs,_,rv,ha⟩
   ·have z':=(if_neg hb).symm.trans z
    cases z'
  ·by_cases hb:b=a
   ·exact hb
   ·exact absurd (if_neg hb) z
theorem Ii {l:PySem.W.OpenLaw}{n k:Nat}{q:Program}{loose:List Str}{XP:(Str->Option Value)->Heap->Prop}{YP:World->Heap->Prop}{d:DefRec}{K:Params->PySem.W.Frag}{CX:World->CXT}{sp:World->Sp}{x:Str}
  (hn:l.most=some n) (hn2:n<=sizeLine) (hdf:d.params.defaults=[]) (hr:gD k callerA)
  (hY:∀ (w:World) (h:Heap),YP w h->(K w.params).In h)
  (F:∀ (w:World) (mg:Str->Option Value) (fa:Addr) (h:Heap),(K w.params).In h->h.Ns mainGlobals mg->mg d.name=some (.ref fa) ->
   ∃ fd:FuncData,(∀ (s:Shared) (u:Value),BindsTo s fd ⟨[u],[]⟩ [(x,u)]) ∧
    ∀ base:Heap,(K w.params).In base->base.Ns mainGlobals mg->cO l.prog w (K w.params) mg base (CX w) k fa fd [x] (sp w))
  (hsp:∀ (w:World) (H:Hp) (a:Addr) (ns:List Int),ns.length<=n->Mh H->SqL (K w.params) H a (ns.map V.int)->sp w [.ref a] H (fun v _=>v = .bl true) fun _ _ _=>False)
  (hCX:∀ (w:World) (H:Hp) (s:Shared) (e:Value) (s':Shared),CX w [] H s (fun _ _ _=>False) e s'->False) :
  PySem.W.WalkO q loose XP YP l.row.toRowW d [] (fun f vs=>PySem.call f vs):=by
 refine Att.wV hn hdf fun w s₀ s₁ mg mb fa o pm cd doc a vs ns G Y ho hd hcd hmg hobj hints hlen hg=>?_
 have KX:=hY w _ Y;obtain ⟨fd,hb,hF⟩:=F w mg fa _ KX G.T.g hmg;exact Ew KX G.T.g G.T.b G.T.builtins G.T.nolimit hg hobj hints (Nat.le_trans hlen hn2) hr hF hb (fun H hO hS=>hsp w H a ns hlen hO hS) fun H e s'=>hCX w H s₁ e s'
def Jk (s:Stmt)(j:Nat):Stmt:=match s with
 | .ClassDef _ _ _ body _ _ _ _ _ _ _=>body.getD j (.Pass ⟨0,0,0,0⟩)
 | _=>.Pass ⟨0,0,0,0⟩
def aV (s:Stmt):Arguments:=match s with
 | .FunctionDef _ a _ _ _ _ _ _ _ _=>a
 | _=>{ posonlyargs:=[],args:=[],vararg:=none,kwonlyargs:=[],kw_defaults:=[],kwarg:=none,defaults:=[] }
def aU (s:Stmt):List Stmt:=match s with
 | .FunctionDef _ _ b _ _ _ _ _ _ _=>b
 | _=>[]
def aE (s:Stmt):Scope:=match s with
 | .FunctionDef _ _ _ _ _ _ sc _ _ _=>sc
 | _=>{ kind:=.function,names:=[],isGenerator:=false,isCoroutine:=false }
abbrev E0:XK:=fun _ _ _=>False
set_option genInjectivity false in
structure Fun (K:PySem.W.Frag)(x qual:Str)(st:Stmt)(f:Addr)(fd:FuncData):Prop where
 ex:∃ (oc:Value) (od:Option Addr) (kV doc pm:Value) (an:Option Addr) (cdv ct:Value) (osl:Array (Option Value)),
  fd=PySem.W.fnOf x qual (aV st) (aU st) (aE st) .none kV doc pm an cdv ct∧K.lookup f=some ⟨oc,od,.func fd,osl⟩∧PySem.W.codeIn K cdv qual=true
 kp:PySem.W.keepIn K (.ref f)=true
section
variable {P:Program}{w:World}{K:PySem.W.Frag}{mg:Str->Option Value}{base:Heap}
theorem Fun.binds {x qual:Str}{st:Stmt}{f:Addr}{fd:FuncData}{ps:List Str}(F:Fun K x qual st f fd)
  (h:∀ (kV doc pm:Value) (an:Option Addr) (cdv ct:Value) (us:List Value),us.length=ps.length->bindArgs (PySem.W.fnOf x qual (aV st) (aU st) (aE st) .none kV doc pm an cdv ct) ⟨us,[]⟩=pure (ps.zip us)):lQ K fd ps []:=by
 obtain ⟨oc,od,kV,doc,pm,an,cdv,ct,osl,rfl,lk,hcd⟩:=F.ex;exact .all (h kV doc pm an cdv ct)
theorem bQ {x qual:Str}{st:Stmt}{f:Addr}{oc:Value}{od an:Option Addr}{osl:Array (Option Value)}{kV doc pm cdv ct:Value}(l:K.lookup f=some ⟨oc,od,.func (PySem.W.fnOf x qual (aV st) (aU st) (aE st) .none kV doc pm an cdv ct),osl⟩)
 (c:PySem.W.codeIn K cdv qual=true) (k:PySem.W.keepIn K (.ref f)=true):Fun K x qual st f (PySem.W.fnOf x qual (aV st) (aU st) (aE st) .none kV doc pm an cdv ct):=⟨⟨oc,od,kV,doc,pm,an,cdv,ct,osl,rfl,l,c⟩,k⟩
end
theorem fO {A:Around}{k:Nat}(hr:gD k A):A.units+1<cLine:=Nat.lt_of_le_of_lt (Nat.add_le_add_left (by decide:1<=64) _) hr.units
section
variable {X:Cx}
theorem pv (i:Nat){x:Str}{pos:Pos}(hN:X.N[i]?=some x:=by rfl)(hv:Vis X.env.scope x:=by first | exact Or.inl rfl | exact Or.inr (Or.inl rfl) | exact Or.inr (Or.inr rfl))(hd:(x==("__debug__" : Str))=false:=by decide)
 (hcd:(x==("__classdict__" : Str))=false:=by decide):PE X (.Name x pos) (Nl i):=Ml hN hv hd hcd
end
theorem vG {A B:Prop}(h:B):if false=true then A else B:=by
 rw [if_neg Bool.false_ne_true];exact h
theorem wF {A B:Prop}(h:A):if true=true then A else B:=by
 rw [if_pos rfl];exact h
theorem gF {c A B:Prop}[Decidable c](h1:c->A)(h2:¬ c->B):if c then A else B:=by
 by_cases h:c
 ·rw [if_pos h]
  exact h1 h
 ·rw [if_neg h]
  exact h2 h
theorem Ki {c A B:Prop}[Decidable c](hc:c)(h:B):if (!decide c)=true then A else B:=by
 rw [decide_eq_true hc];exact vG h
def aM (H H':Hp):Prop:=∀ b o,H b=some o->H' b=some o
theorem aM.refl (H:Hp):aM H H:=fun _ _ h=>h
theorem aM.trans {H H1 H2:Hp}(a:aM H H1)(b:aM H1 H2):aM H H2:=fun c o h=>b c o (a c o h)
theorem aM.seq {K:PySem.W.Frag}{H H':Hp}{a:Addr}{xs:List V}(e:aM H H')(h:SqL K H a xs):SqL K H' a xs:=by
 rcases h with (h | ⟨o,h⟩) | h
 ·exact .inl (.inl (e _ _ h))
 ·exact .inl (.inr ⟨o,e _ _ h⟩)
 ·exact .inr h
end L2
namespace Wd
abbrev W:=List Nat
theorem Qq {a b c:W}(h:¬ b<a)(h':¬ c<b):¬ c<a:=fun hc=>List.not_lt.mpr (List.le_trans (List.not_lt.mp h) (List.not_lt.mp h')) hc
def rot (k:Nat)(w:W):W:=w.drop k++w.take k
def uW (w:W):Nat->W
 | 0=>w
 | n+1=>if rot (n+1) w<uW w n then rot (n+1) w else uW w n
def kM (w:W):W:=uW w (w.length-1)
def rep (n:Nat)(l:W):W:=(List.replicate n l).flatten
theorem pM (n:Nat)(l:W):rep (n+1) l=l++rep n l:=by unfold rep;rw [List.replicate_succ,List.flatten_cons]
theorem wK (l:W):rep 0 l=[]:=rfl
theorem Ji (l:W):rep 1 l=l:=by rw [pM,wK,List.append_nil]
theorem Ax (n:Nat)(l:W):(rep n l).length=n*l.length:=by
 induction n with
 | zero=>rw [wK,Nat.zero_mul];rfl
 | succ n ih=>rw [pM,List.length_append,ih,Nat.succ_mul,Nat.add_comm]
end Wd
namespace Dt
abbrev Mx:=Nat->Nat->Int
def dF:Nat->(Nat->Int)->Int
 | 0,_=>0
 | n+1,f=>dF n f+f n
def sk (j k:Nat):Nat:=if k<j then k else k+1
def sg (j:Nat):Int:=if j % 2=0 then 1 else -1
def det:Nat->Mx->Int
 | 0,_=>1
 | n+1,A=>dF (n+1) fun j=>sg j*(A 0 j*det n fun i k=>A (i+1) (sk j k))
section
variable {n N p q i j k l:Nat}{A B:Mx}{f g:Nat->Int}{c m:Int}
theorem eY:∀ {n:Nat},(∀ j,j<n->f j=g j)->dF n f=dF n g
 | 0,_=>rfl
 | n+1,h=>by
  show dF n f+f n=dF n g+g n;rw [eY (n:=n) fun j hj=>h j (by omega),h n (by omega)]
theorem lW:∀ {n:Nat},dF n (fun j=>f j+c*g j)=dF n f+c*dF n g
 | 0=>by show (0:Int)=0+c*0;omega
 | n+1=>by
  show dF n (fun j=>f j+c*g j)+(f n+c*g n)=(dF n f+f n)+c*(dF n g+g n);rw [lW (n:=n),Int.mul_add];omega
theorem jM:∀ {n:Nat},(∀ j,j<n->f j=0)->dF n f=0
 | 0,_=>rfl
 | n+1,h=>by
  show dF n f+f n=0;rw [jM (n:=n) fun j hj=>h j (by omega),h n (by omega)];rfl
theorem Bh {n:Nat}:dF n (fun j=>c*g j)=c*dF n g:=by
 have h:=lW (n:=n) (f:=fun _=>0) (c:=c) (g:=g);rw [jM (fun _ _=>rfl)] at h;rw [eY (g:=fun j=>0+c*g j) fun j _=>by omega,h];omega
theorem tH:∀ {n:Nat},(∀ j,0<j->j<n+1->f j=0)->dF (n+1) f=f 0
 | 0,_=>by show (0:Int)+f 0=f 0;omega
 | n+1,h=>by
  show dF (n+1) f+f (n+1)=f 0;rw [tH (n:=n) fun j h0 hj=>h j h0 (by omega),h (n+1) (by omega) (by omega)];omega
theorem Ff (h:k<n):sk j k<n+1:=by unfold sk;split <;> omega
theorem bS:∀ {n:Nat} {A B:Mx},(∀ i k,i<n->k<n->A i k=B i k)->det n A=det n B
 | 0,_,_,_=>rfl
 | n+1,A,B,h=>by
  refine eY fun j hj=>?_
  rw [h 0 j (by omega) hj,bS (n:=n) fun i k hi hk=>h (i+1) (sk j k) (by omega) (Ff hk)]
def cD (A:Mx)(i:Nat)(u:Nat->Int):Mx:=fun a k=>if a=i then u k else A a k
theorem jV {u:Nat->Int}:cD A i u i=u:=by
 funext k
 exact if_pos rfl
theorem iP {u:Nat->Int}{a:Nat}(h:a≠i):cD A i u a=A a:=by
 funext k
 exact if_neg h
theorem yI {u:Nat->Int}:(fun a k=>cD A (i+1) u (a+1) (sk j k))=cD (fun a k=>A (a+1) (sk j k)) i fun k=>u (sk j k):=by
 funext a k
 unfold cD;by_cases h:a=i
 ·rw [if_pos h,if_pos (by omega)]
 ·rw [if_neg h,if_neg (by omega)]
theorem lY:∀ {n:Nat} {A:Mx} {i:Nat} {u v:Nat->Int},i<n->det n (cD A i fun k=>u k+c*v k)=det n (cD A i u)+c*det n (cD A i v)
 | n+1,A,0,u,v,_=>by
  have e:∀ w:Nat->Int,det (n+1) (cD A 0 w)=dF (n+1) fun j=>sg j*(w j*det n fun i k=>A (i+1) (sk j k)):=fun w=>by
   refine eY fun j _=>?_
   rw [jV,bS (n:=n) (A:=fun i k=>cD A 0 w (i+1) (sk j k)) (B:=fun i k=>A (i+1) (sk j k)) fun a k _ _=>by rw [iP (by omega)]]
  rw [e,e,e,<- lW];refine eY fun j _=>?_
  rw [Int.add_mul,Int.mul_add]
  congr 1
  rw [Int.mul_assoc c,<- Int.mul_assoc (sg j) c,Int.mul_comm (sg j) c,Int.mul_assoc c]
 | n+1,A,i+1,u,v,h=>by
  have e:∀ w:Nat->Int,det (n+1) (cD A (i+1) w)=dF (n+1) fun j=>sg j*(A 0 j*det n (cD (fun a k=>A (a+1) (sk j k)) i fun k=>w (sk j k))):=fun w=>by
   refine eY fun j _=>?_
   rw [yI,iP (by omega)]
  rw [e,e,e,<- lW];refine eY fun j _=>?_
  rw [lY (n:=n) (i:=i) (u:=fun k=>u (sk j k)) (v:=fun k=>v (sk j k)) (by omega),Int.mul_add,Int.mul_add]
  congr 1
  rw [<- Int.mul_assoc (A 0 j) c,Int.mul_comm (A 0 j) c,Int.mul_assoc c,<- Int.mul_assoc (sg j) c,Int.mul_comm (sg j) c,Int.mul_assoc c]
theorem Ag:sg (j+1) = - sg j:=by
 unfold sg;by_cases h:j % 2=0
 ·rw [if_pos h,if_neg (by omega)]
 ·rw [if_neg h,if_pos (by omega)];rfl
theorem Nt:sg j*sg j=1:=by
 unfold sg;split <;> rfl
theorem dbl {F:Nat->Nat->Int}:∀ {N:Nat},(∀ j l,l<j->j<=N->F j l+F l (j-1)=0)->dF (N+1) (fun j=>dF N (F j))=0
 | 0,_=>rfl
 | N+1,h=>by
  have ih:=dbl (N:=N) fun j l hl hj=>h j l hl (by omega)
  have e1:dF (N+1) (fun j=>dF (N+1) (F j))=dF (N+1) (fun j=>dF N (F j)+1*F j N):=eY fun j _=>by
   show dF N (F j)+F j N=_;omega
  have e2:dF (N+1) (fun l=>F l N+1*F (N+1) l)=0:=jM fun l hl=>by
   have:=h (N+1) l (by omega) (by omega)
   rw [Nat.add_sub_cancel] at this;omega
  rw [lW] at e1 e2;show dF (N+1) (fun j=>dF (N+1) (F j))+dF (N+1) (F (N+1))=0;have e3:dF (N+1) (F (N+1))=dF (N+1) fun l=>F (N+1) l:=rfl
  rw [e1,ih];omega
theorem Nr (h:l<j):sk j (sk l k)=sk l (sk (j-1) k):=by
 have a:∀ x y:Nat,sk x y=if y<x then y else y+1:=fun _ _=>rfl
 by_cases h1:k<l
 ·rw [a l k,if_pos h1,a j k,if_pos (by omega),a (j-1) k,if_pos (by omega),a l k,if_pos h1]
 ·rw [a l k,if_neg h1]
  by_cases h2:k+1<j
  ·rw [a j,if_pos h2,a (j-1) k,if_pos (by omega),a l k,if_neg h1]
  ·rw [a j,if_neg h2,a (j-1) k,if_neg (by omega),a l,if_neg (by omega)]
theorem Qp (h:∀ k,k<n+2->A 0 k=A 1 k):det (n+2) A=0:=by
 have e:det (n+2) A=dF (n+2) fun j=>dF (n+1) fun l=>sg j*(A 0 j*(sg l*(A 1 (sk j l)*det n fun i k=>A (i+2) (sk j (sk l k))))):=by
  refine eY fun j _=>?_
  show sg j*(A 0 j*dF (n+1) fun l=>sg l*(A 1 (sk j l)*det n fun i k=>A (i+2) (sk j (sk l k))))=_;rw [<- Bh,<- Bh]
 rw [e];refine dbl fun j l hl hj=>?_
 have s1:sk j l=l:=by unfold sk;rw [if_pos hl]
 have s2:sk l (j-1)=j:=by unfold sk;rw [if_neg (by omega)];omega
 have s3:(fun i k=>A (i+2) (sk l (sk (j-1) k)))=fun i k=>A (i+2) (sk j (sk l k)):=by
  funext i k
  rw [Nr hl]
 rw [s1,s2,s3,<- h j (by omega),<- h l (by omega)];have s4:sg j = - sg (j-1):=by rw [<- Ag,Nat.sub_add_cancel (by omega)]
 rw [s4];generalize det n (fun i k=>A (i+2) (sk j (sk l k)))=d
 grind
theorem alt:∀ {n i:Nat} {A:Mx},i+1<n->(∀ k,k<n->A i k=A (i+1) k)->det n A=0
 | n+2,0,A,_,h=>Qp h
 | n+1,i+1,A,hi,h=>by
  refine jM fun j _=>?_
  rw [alt (n:=n) (i:=i) (A:=fun a k=>A (a+1) (sk j k)) (by omega) fun k hk=>h (sk j k) (Ff hk),Int.mul_zero,Int.mul_zero]
def tr (p i:Nat):Nat:=if i=p then p+1 else if i=p+1 then p else i
theorem mD {u v:Nat->Int}(h:i≠j):cD (cD A i u) j v=cD (cD A j v) i u:=by
 funext a k
 unfold cD;by_cases h1:a=i
 ·rw [if_neg (by omega),if_pos h1,if_pos h1]
 ·by_cases h2:a=j
  ·rw [if_pos h2,if_neg h1,if_pos h2]
  ·rw [if_neg h2,if_neg h1,if_neg h1,if_neg h2]
theorem uK {u v:Nat->Int}(h:i<n):det n (cD A i fun k=>u k+v k)=det n (cD A i u)+det n (cD A i v):=by
 have:=lY (c:=1) (A:=A) (u:=u) (v:=v) h
 rw [Int.one_mul] at this;rw [<- this]
 congr 2
 funext k
 omega
theorem hX (u:Nat->Int)(h:∀ k,u k=A i k):det n (cD A i u)=det n A:=bS fun a k _ _=>by
 unfold cD;by_cases e:a=i
 ·rw [if_pos e,h,e]
 ·rw [if_neg e]
theorem swap (h:p+1<n):det n (fun i k=>A (tr p i) k) = - det n A:=by
 have D:∀ x y:Nat->Int,∃ d,det n (cD (cD A p x) (p+1) y)=d:=fun _ _=>⟨_,rfl⟩
 have z:∀ w:Nat->Int,det n (cD (cD A p w) (p+1) w)=0:=fun w=>alt h fun k _=>by rw [iP (by omega),jV,jV]
 have l2:∀ x y y':Nat->Int,det n (cD (cD A p x) (p+1) fun k=>y k+y' k)=det n (cD (cD A p x) (p+1) y)+det n (cD (cD A p x) (p+1) y'):=fun x y y'=>uK h
 have l1:∀ x x' y:Nat->Int,det n (cD (cD A p fun k=>x k+x' k) (p+1) y)=det n (cD (cD A p x) (p+1) y)+det n (cD (cD A p x') (p+1) y):=fun x x' y=>by
  rw [mD (by omega),mD (u:=x) (by omega),mD (u:=x') (by omega)];exact uK (by omega)
 have e0:=z fun k=>A p k+A (p+1) k
 rw [l2,l1,l1,z,z] at e0;have e1:det n (cD (cD A p (A p)) (p+1) (A (p+1)))=det n A:=by
  rw [hX _ (fun k=>by rw [iP (by omega)]),hX _ (fun k=>rfl)]
 have e2:det n (cD (cD A p (A (p+1))) (p+1) (A p))=det n fun i k=>A (tr p i) k:=by
  refine bS fun a k _ _=>?_
  unfold cD tr;by_cases h1:a=p+1
  ·rw [if_pos h1,if_neg (by omega),if_pos h1]
  ·rw [if_neg h1]
   by_cases h2:a=p
   ·rw [if_pos h2,if_pos h2]
   ·rw [if_neg h2,if_neg h2,if_neg h1]
 rw [e1,e2] at e0;omega
theorem oK:∀ (d:Nat) {i:Nat} {A:Mx},i+1+d<n->(∀ k,k<n->A i k=A (i+1+d) k)->det n A=0
 | 0,i,A,hi,h=>alt hi h
 | d+1,i,A,hi,h=>by
  have h2:=oK d (i:=i) (A:=fun a k=>A (tr (i+1+d) a) k) (by omega) fun k hk=>by
   show A (tr (i+1+d) i) k=A (tr (i+1+d) (i+1+d)) k;unfold tr;rw [if_neg (by omega),if_neg (by omega),if_pos rfl];exact h k hk
  rw [swap (by omega)] at h2;omega
theorem Lz {t:Int}(h0:0<i)(h:i<n):det n (cD A i fun k=>A i k-t*A 0 k)=det n A:=by
 have e:=lY (c:=-t) (A:=A) (u:=A i) (v:=A 0) h;rw [hX (A i) fun _=>rfl,oK (i-1) (i:=0) (A:=cD A i (A 0)) (by omega) fun k _=>?_,Int.mul_zero,Int.add_zero] at e
 ·rw [<- e]
  congr 2
  funext k
  rw [Int.neg_mul];omega
 ·rw [iP (by omega),show 0+1+(i-1)=i by omega,jV]
theorem Ey {t:Nat->Int}:∀ {m:Nat},m<=n->det n (fun i k=>if 0<i∧i<m then A i k-t i*A 0 k else A i k)=det n A
 | 0,_=>bS fun i k _ _=>if_neg (by omega)
 | m+1,hm=>by
  rw [<- Ey (m:=m) (by omega)];by_cases h0:m=0
  ·subst h0
   exact bS fun i k _ _=>by rw [if_neg (by omega),if_neg (by omega)]
  ·rw [<- Lz (A:=fun i k=>if 0<i∧i<m then A i k-t i*A 0 k else A i k) (i:=m) (t:=t m) (by omega) (by omega)]
   refine bS fun i k _ _=>?_
   unfold cD
   dsimp only
   by_cases h1:i=m
   ·subst h1
    rw [if_pos rfl,if_pos (by omega),if_neg (by omega),if_neg (by omega)]
   ·rw [if_neg h1]
    by_cases h2:0<i∧i<m
    ·rw [if_pos h2,if_pos (by omega)]
    ·rw [if_neg h2,if_neg (by omega)]
theorem Mu:∀ {n:Nat} {A:Mx},(∀ i,i<n+1->A i 0=0)->det (n+1) A=0
 | n,A,h=>by
  refine jM fun j hj=>?_
  cases j with
  | zero=>rw [h 0 (by omega),Int.zero_mul,Int.mul_zero]
  | succ j =>
   cases n with
   | zero=>omega
   | succ n=>rw [Mu (n:=n) (A:=fun i k=>A (i+1) (sk (j+1) k)) fun i hi=>h (i+1) (by omega),Int.mul_zero,Int.mul_zero]
theorem Oj (h:∀ i,i<n->A (i+1) 0=0):det (n+1) A=A 0 0*det n fun i k=>A (i+1) (k+1):=by
 show dF (n+1) _=_;rw [tH fun j h0 hj=>?_]
 ·show sg 0*(A 0 0*det n fun i k=>A (i+1) (sk 0 k))=_
  rw [show sg 0=1 from rfl,Int.one_mul];rfl
 ·cases n with
  | zero=>omega
  | succ n =>
   rw [Mu (A:=fun i k=>A (i+1) (sk j k)) fun i hi=>by
    show A (i+1) (sk j 0)=0;rw [show sk j 0=0 by unfold sk;rw [if_pos h0]];exact h i hi,Int.mul_zero,Int.mul_zero]
def Cg (m a b:Int):Prop:=m∣a-b
theorem Cg.refl (a:Int):Cg m a a:=by unfold Cg;rw [Int.sub_self];exact Int.dvd_zero m
theorem Cg.symm {a b:Int}(h:Cg m a b):Cg m b a:=by
 unfold Cg at *;rw [<- Int.neg_sub];exact Int.dvd_neg.mpr h
theorem Cg.trans {a b d:Int}(h:Cg m a b)(g:Cg m b d):Cg m a d:=by
 unfold Cg at *;rw [show a-d=(a-b)+(b-d) by omega];exact Int.dvd_add h g
theorem Cg.add {a b a' b':Int}(h:Cg m a b)(g:Cg m a' b'):Cg m (a+a') (b+b'):=by
 unfold Cg at *;rw [show a+a'-(b+b')=(a-b)+(a'-b') by omega];exact Int.dvd_add h g
theorem Cg.mul {a b a' b':Int}(h:Cg m a b)(g:Cg m a' b'):Cg m (a*a') (b*b'):=by
 unfold Cg at *;rw [show a*a'-b*b'=(a-b)*a'+b*(a'-b') by rw [Int.sub_mul,Int.mul_sub];omega];exact Int.dvd_add (Int.dvd_mul_of_dvd_left h) (Int.dvd_mul_of_dvd_right g)
theorem Cg.sub {a b a' b':Int}(h:Cg m a b)(g:Cg m a' b'):Cg m (a-a') (b-b'):=by
 unfold Cg at *;rw [show a-a'-(b-b')=(a-b)-(a'-b') by omega];exact Int.dvd_sub h g
theorem Cg.neg {a b:Int}(h:Cg m a b):Cg m (-a) (-b):=by
 have:=(Cg.refl (m:=m) 0).sub h
 rwa [Int.zero_sub,Int.zero_sub] at this
theorem mE (a:Int):Cg m (a % m) a:=by
 unfold Cg;rw [Int.emod_def];rw [show a-m*(a/m)-a = -(m*(a/m)) by omega];exact Int.dvd_neg.mpr (Int.dvd_mul_right ..)
theorem Ek:∀ {n:Nat},(∀ j,j<n->Cg m (f j) (g j))->Cg m (dF n f) (dF n g)
 | 0,_=>Cg.refl _
 | n+1,h=>(Ek (n:=n) fun j hj=>h j (by omega)).add (h n (by omega))
theorem uM:∀ {n:Nat} {A B:Mx},(∀ i k,i<n->k<n->Cg m (A i k) (B i k))->Cg m (det n A) (det n B)
 | 0,_,_,_=>Cg.refl _
 | n+1,A,B,h=>Ek fun j hj=>(Cg.refl _).mul ((h 0 j (by omega) hj).mul (uM fun i k hi hk=>h (i+1) (sk j k) (by omega) (Ff hk)))
theorem Fp {t:Nat->Int}(h:∀ i,i<n->m∣A (i+1) 0-t i*A 0 0):Cg m (det (n+1) A) (A 0 0*det n fun i k=>A (i+1) (k+1)-t i*A 0 (k+1)):=by
 rw [<- Ey (n:=n+1) (A:=A) (t:=fun i=>t (i-1)) (m:=n+1) (Nat.le_refl _)];refine (uM (B:=fun i k=>if i=0 then A 0 k else if k=0 then 0 else A i k-t (i-1)*A 0 k) fun i k hi hk=>?_).trans ?_
 ·by_cases h0:i=0
  ·subst h0
   rw [if_neg (by omega),if_pos rfl];exact Cg.refl _
  ·rw [if_pos (by omega),if_neg h0]
   by_cases hk0:k=0
   ·subst hk0
    rw [if_pos rfl]
    have:=h (i-1) (by omega)
    rw [show i-1+1=i by omega] at this;unfold Cg;rw [Int.sub_zero];exact this
   ·rw [if_neg hk0]
    exact Cg.refl _
 ·rw [Oj fun i _=>by rw [if_neg (by omega),if_pos rfl]]
  rw [if_pos rfl];have e:det n (fun i k=>if i+1=0 then A 0 (k+1) else if k+1=0 then 0 else A (i+1) (k+1)-t (i+1-1)*A 0 (k+1))=det n fun i k=>A (i+1) (k+1)-t i*A 0 (k+1):=bS fun i k _ _=>by rw [if_neg (by omega),if_neg (by omega)];rfl
  rw [e];exact Cg.refl _
def mv (p:Nat)(A:Mx):Mx:=fun i k=>if i=0 then A p k else if i<=p then A (i-1) k else A i k
theorem Fx:∀ {p:Nat} {A:Mx},p<n->det n (mv p A)=sg p*det n A
 | 0,A,h=>by
  rw [show sg 0=1 from rfl,Int.one_mul];exact bS fun i k _ _=>by
   unfold mv;by_cases h0:i=0
   ·rw [if_pos h0,h0]
   ·rw [if_neg h0,if_neg (by omega)]
 | p+1,A,h=>by
  have ih:=Fx (p:=p) (A:=fun i k=>A (tr p i) k) (by omega);rw [swap h] at ih;rw [Ag,Int.neg_mul,<- Int.mul_neg,<- ih];refine bS fun i k _ _=>?_
  unfold mv tr
  dsimp only
  by_cases h0:i=0
  ·rw [if_pos h0,if_pos h0,if_pos rfl]
  ·rw [if_neg h0,if_neg h0]
   by_cases h1:i<=p
   ·rw [if_pos (by omega),if_pos h1,if_neg (by omega),if_neg (by omega)]
   ·by_cases h2:i=p+1
    ·subst h2
     rw [if_pos (by omega),if_neg (by omega),if_neg (by omega),if_pos rfl];rfl
    ·rw [if_neg (by omega),if_neg h1,if_neg (by omega),if_neg h2]
end
def sN:Nat->(Nat->Nat)->Nat
 | 0,_=>0
 | n+1,f=>sN n f+f n
def pN:Nat->(Nat->Nat)->Nat
 | 0,_=>1
 | n+1,f=>f 0*pN n fun i=>f (i+1)
section
variable {n N p q i j k l:Nat}{A B:Mx}{f g:Nat->Nat}{c m:Int}
theorem Er:∀ {n:Nat},(∀ j,j<n->f j<=g j)->sN n f<=sN n g
 | 0,_=>Nat.le_refl _
 | n+1,h=>Nat.add_le_add (Er fun j hj=>h j (by omega)) (h n (by omega))
theorem zM {c:Nat}:∀ {n:Nat},sN n (fun j=>f j*c)=sN n f*c
 | 0=>by show 0=0*c;omega
 | n+1=>by
  show sN n (fun j=>f j*c)+f n*c=(sN n f+f n)*c;rw [zM (n:=n),Nat.add_mul]
theorem Kh:∀ {n:Nat} {f g:Nat->Nat},(∀ j,j<n->f j<=g j)->pN n f<=pN n g
 | 0,_,_,_=>Nat.le_refl _
 | n+1,f,g,h=>Nat.mul_le_mul (h 0 (by omega)) (Kh fun j hj=>h (j+1) (by omega))
theorem Ba {f:Nat->Int}:∀ {n:Nat},(dF n f).natAbs<=sN n fun j=>(f j).natAbs
 | 0=>Nat.le_refl _
 | n+1=>by
  have:=Ba (f:=f) (n:=n)
  have h2:=Int.natAbs_add_le (dF n f) (f n);show (dF n f+f n).natAbs<=sN n (fun j=>(f j).natAbs)+(f n).natAbs;omega
theorem Kr {f:Nat->Nat}{j:Nat}:∀ {n:Nat},sN n (fun k=>f (sk j k))<=sN (n+1) f
 | 0=>Nat.zero_le _
 | n+1=>by
  show sN n (fun k=>f (sk j k))+f (sk j n)<=sN (n+1) f+f (n+1);by_cases h:n<j
  ·have e:∀ m,m<=n+1->sN m (fun k=>f (sk j k))=sN m f:=fun m=>by
    induction m with
    | zero=>intro _;rfl
    | succ m ih =>
     intro hm;show sN m (fun k=>f (sk j k))+f (sk j m)=sN m f+f m;rw [ih (by omega),show sk j m=m by unfold sk;rw [if_pos (by omega)]]
   have:=e (n+1) (Nat.le_refl _)
   have e2:sN (n+1) (fun k=>f (sk j k))=sN n (fun k=>f (sk j k))+f (sk j n):=rfl;omega
  ·have:=Kr (j:=j) (f:=f) (n:=n)
   rw [show sk j n=n+1 by unfold sk;rw [if_neg h]];omega
theorem Ms:(sg j).natAbs=1:=by unfold sg;split <;> rfl
theorem sU:∀ {n:Nat} {A:Mx},(det n A).natAbs<=pN n fun i=>sN n fun k=>(A i k).natAbs
 | 0,_=>Nat.le_refl _
 | n+1,A=>by
  refine Nat.le_trans Ba ?_;show _<=sN (n+1) (fun k=>(A 0 k).natAbs)*pN n fun i=>sN (n+1) fun k=>(A (i+1) k).natAbs
  rw [<- zM];refine Er fun j _=>?_
  rw [Int.natAbs_mul,Int.natAbs_mul,Ms,Nat.one_mul];exact Nat.mul_le_mul_left _ (Nat.le_trans sU (Kh fun i _=>Kr (f:=fun k=>(A (i+1) k).natAbs)))
def ent (M:List (List Int)):Mx:=fun i k=>(M.getD i []).getD k 0
theorem sI {α:Type}{M:List α}{d:α}(i:Nat):(M.eraseIdx p).getD i d=M.getD (if i<p then i else i+1) d:=by
 rw [List.getD_eq_getElem?_getD,List.getD_eq_getElem?_getD,List.getElem?_eraseIdx];split <;> rfl
theorem Id {M:List (List Int)}{u:List Int->List Int}(h:i<M.length):(M.map u).getD i []=u (M.getD i []):=by
 rw [List.getD_eq_getElem?_getD,List.getD_eq_getElem?_getD,List.getElem?_map,List.getElem?_eq_getElem h];rfl
theorem elim {M:List (List Int)}{top:List Int}{back:Int}{t:List Int->Int}{low:List Int->List Int}(hp:p<n+1)(hM:M.length=n+1)(htop:∀ k,k<n+1->Cg m (top.getD k 0) ((M.getD p []).getD k 0))(hb:Cg m (top.getD 0 0*back) 1)
  (ht:∀ r∈M,Cg m (t r) (r.getD 0 0*back)) (hlow:∀ r∈M,∀ k,k<n->(low r).getD k 0=r.getD (k+1) 0-t r*top.getD (k+1) 0):Cg m (det (n+1) (ent M)) (sg p*(top.getD 0 0*det n (ent ((M.eraseIdx p).map low)))):=by
 have e1:det (n+1) (ent M)=sg p*det (n+1) (mv p (ent M)):=by
  rw [Fx hp,<- Int.mul_assoc,Nt,Int.one_mul]
 have mem:∀ i,i<n->(M.eraseIdx p).getD i []∈M:=fun i hi=>by
  rw [sI];split
  ·rw [List.getD_eq_getElem?_getD,List.getElem?_eq_getElem (by omega)]
   exact List.getElem_mem _
  ·rw [List.getD_eq_getElem?_getD,List.getElem?_eq_getElem (by omega)]
   exact List.getElem_mem _
 have row:∀ i k,i<n->mv p (ent M) (i+1) k=((M.eraseIdx p).getD i []).getD k 0:=fun i k hi=>by
  unfold mv ent;rw [if_neg (by omega),sI];by_cases h:i<p
  ·rw [if_pos (by omega),if_pos h]
   rfl
  ·rw [if_neg (by omega),if_neg h]
 rw [e1];refine (Cg.refl _).mul ?_;refine (uM (B:=fun i k=>if i=0 then top.getD k 0 else mv p (ent M) i k) fun i k hi hk=>?_).trans ?_
 ·by_cases h0:i=0
  ·subst h0
   rw [if_pos rfl];exact (htop k hk).symm
  ·rw [if_neg h0]
   exact Cg.refl _
 ·refine (Fp (t:=fun i=>t ((M.eraseIdx p).getD i [])) fun i hi=>?_).trans ?_
  ·rw [if_neg (by omega),if_pos rfl,row i 0 hi]
   have h1:=ht _ (mem i hi);have h2:=(h1.mul (Cg.refl (top.getD 0 0))).trans (b:=((M.eraseIdx p).getD i []).getD 0 0*back*top.getD 0 0) (d:=((M.eraseIdx p).getD i []).getD 0 0*1) (by
    rw [Int.mul_assoc,Int.mul_comm back];exact (Cg.refl _).mul hb)
   rw [Int.mul_one] at h2;exact h2.symm
  ·rw [if_pos rfl]
   refine (Cg.refl _).mul ?_;rw [bS (B:=ent ((M.eraseIdx p).map low)) fun i k hi hk=>?_]
   ·exact Cg.refl _
   ·rw [if_neg (by omega),if_pos rfl,row i (k+1) hi]
    unfold ent;rw [Id (by rw [List.length_eraseIdx];split <;> omega),hlow _ (mem i hi) k hk]
theorem Pp {M:List (List Int)}(h:∀ r∈M,m∣r.getD 0 0)(hM:M.length=n+1):Cg m (det (n+1) (ent M)) 0:=by
 rw [<- Mu (n:=n) (A:=fun i k=>if k=0 then 0 else ent M i k) fun i _=>if_pos rfl];refine uM fun i k hi hk=>?_
 by_cases hk0:k=0
 ·subst hk0
  rw [if_pos rfl];unfold Cg ent;rw [Int.sub_zero];refine h _ ?_;rw [List.getD_eq_getElem?_getD,List.getElem?_eq_getElem (by omega)];exact List.getElem_mem _
 ·rw [if_neg hk0]
  exact Cg.refl _
theorem Jo:∀ {r:List Int} {n:Nat},r.length=n->(((r.map fun x=>if x<0 then -x else x).sum:Int))=((sN n fun k=>(r.getD k 0).natAbs:Nat):Int):=by
 intro r
 induction r with
 | nil=>intro n h;subst h;rfl
 | cons x r ih =>
  intro n h;subst h;have key:∀ (n:Nat) (f:Nat->Nat),sN (n+1) f=f 0+sN n fun k=>f (k+1):=fun n=>by
   induction n with
   | zero=>intro f;show 0+f 0=f 0+0;omega
   | succ n ih2 =>
    intro f;show sN (n+1) f+f (n+1)=f 0+(sN n (fun k=>f (k+1))+f (n+1));rw [ih2];omega
  rw [List.map_cons,List.sum_cons,ih rfl,List.length_cons,key];show (if x<0 then -x else x)+_=(((x.natAbs+sN r.length fun k=>(r.getD k 0).natAbs:Nat)):Int);rw [Int.natCast_add]
  congr 1
  split <;> omega
end
end Dt
namespace Wd
def Na (t:W)(n i:Nat):W:=(List.range n).map fun k=>t.getD ((i+k) % t.length) 0
def rF (t:W)(n:Nat):List W:=(List.range (t.length+1-n)).map (Na t n)
theorem nQ:∀ {xs ys:List W},xs.Perm ys->xs.Pairwise (fun a b=>¬ b<a)->ys.Pairwise (fun a b=>¬ b<a)->xs=ys:=by
 intro xs ys h h1 h2;refine List.Perm.eq_of_pairwise ?_ h1 h2 h;intro a b _ _ z1 z2;exact Std.Trichotomous.trichotomous a b z2 z1
end Wd
namespace Hg
variable {bg en:List Nat->List Nat}
inductive Rch (bg en:List Nat->List Nat)(ms:List (List Nat))(p:List Nat):List Nat->Prop
 | self:Rch bg en ms p p
 | fw {w:List Nat}:w∈ms->Rch bg en ms p (bg w)->Rch bg en ms p (en w)
 | bw {w:List Nat}:w∈ms->Rch bg en ms p (en w)->Rch bg en ms p (bg w)
def Cl (bg en:List Nat->List Nat)(ls:List (List Nat))(w:List Nat):Prop:=bg w∈ls↔en w∈ls
def Me (ls:List (List Nat))(t:List Nat):List (List Nat):=if t∈ls then ls else ls++[t]
set_option genInjectivity false in
structure Pass (bg en:List Nat->List Nat)(ms:List (List Nat))(p:List Nat)(fs:List (List Nat))(i:Nat)(ls:List (List Nat)):Prop where
 nd:ls.Nodup
 pre:fs <+: ls
 rch:∀ z∈ls,Rch bg en ms p z
 cl:ls.length=fs.length->∀ w∈ms.take i,Cl bg en fs w
theorem uQ {α:Type}[BEq α][LawfulBEq α]:∀ {ls ms:List α},ls.Nodup->(∀ z∈ls,z∈ms)->ls.length<=ms.length
 | [],_,_,_=>Nat.zero_le _
 | a::ls,ms,h,hs=>by
  rw [List.nodup_cons] at h;have ha:=hs a (List.mem_cons_self ..);have ih:=uQ (ls:=ls) (ms:=ms.erase a) h.2 fun z hz=>(List.mem_erase_of_ne (fun e:z=a=>h.1 (e▸hz))).mpr (hs z (List.mem_cons_of_mem _ hz))
  have:=List.length_erase_of_mem ha
  have:=List.length_pos_of_mem ha
  rw [List.length_cons];omega
end Hg
namespace Dt
def dP (N:Nat):Prop:=1<N∧∀ x,0<x->x<N->Nat.gcd x N=1
section
variable {N F b d e n:Nat}
def pm (N:Nat):Nat->Nat->Nat->Nat
 | 0,_,_=>1 % N
 | f+1,b,e=>if e=0 then 1 % N else if e % 2=1 then b*pm N f (b*b % N) (e/2) % N else pm N f (b*b % N) (e/2)
theorem xH (N b e:Nat):(b*b % N) ^ e % N=b ^ (2*e) % N:=by
 rw [<- Nat.pow_mod,Nat.pow_mul,Nat.pow_two]
theorem Bo:∀ (f b e:Nat),e<2 ^ f->pm N f b e=b ^ e % N
 | 0,b,e,h=>by
  obtain rfl:e=0:=by simpa using h
  rfl
 | f+1,b,e,h=>by
  unfold pm;by_cases h0:e=0
  ·rw [if_pos h0,h0,Nat.pow_zero]
  ·rw [if_neg h0]
   have ih:=Bo f (b*b % N) (e/2) (by rw [Nat.pow_succ] at h;omega);by_cases h1:e % 2=1
   ·rw [if_pos h1,ih,Nat.mul_mod,Nat.mod_mod,xH,<- Nat.mul_mod,Nat.mul_comm,<- Nat.pow_succ]
    congr 2
    omega
   ·rw [if_neg h1,ih,xH]
    congr 2
    omega
theorem Jp {b d:Nat}(hd:1<d){x y:Nat}(hx:b ^ x % d=1)(hy:b ^ y % d=1):b ^ (y % x) % d=1:=by
 have e:b ^ y=(b ^ x) ^ (y/x)*b ^ (y % x):=by rw [<- Nat.pow_mul,<- Nat.pow_add,Nat.div_add_mod]
 rw [e,Nat.mul_mod,Nat.pow_mod,hx,Nat.one_pow,Nat.mod_eq_of_lt hd,Nat.one_mul,Nat.mod_mod] at hy;exact hy
theorem Iw {b d:Nat}(hd:1<d):∀ (x y:Nat),b ^ x % d=1->b ^ y % d=1->b ^ (Nat.gcd x y) % d=1:=fun x y=>by
 induction x,y using Nat.gcd.induction with
 | H0 y=>intro _ h;rw [Nat.gcd_zero_left];exact h
 | H1 x y hx ih =>
  intro h1 h2;rw [Nat.gcd_rec];exact ih (Jp hd h1 h2) h1
theorem nO (rs:List Nat)(hN:1<N)(hF:N<=F*F)(h1:b ^ F % N=1)(h2:∀ r∈rs,Nat.gcd (b ^ (F/r) % N+(N-1)) N=1)(h3:∀ g,g∣F->g<F->∃ r∈rs,g∣F/r):dP N:=by
 have key:∀ d,d∣N->1<d->F<d:=fun d hdN hd=>by
  have hdF:b ^ F % d=1:=by
   have:=Nat.mod_mod_of_dvd (b ^ F) hdN
   rw [h1,Nat.mod_eq_of_lt hd] at this;exact this.symm
  have no:∀ e,0<e->e<F->b ^ e % d≠1:=fun e he heF hc=>by
   have hg:=Iw hd e F hc hdF;have hgF:=Nat.gcd_dvd_right e F;have hge:Nat.gcd e F<=e:=Nat.gcd_le_left F he;obtain ⟨r,hr,hgr⟩:=h3 _ hgF (by omega);obtain ⟨q,hq⟩:=hgr;have hFr:b ^ (F/r) % d=1:=by rw [hq,Nat.pow_mul,Nat.pow_mod,hg,Nat.one_pow,Nat.mod_eq_of_lt hd]
   have hdd:d∣b ^ (F/r) % N+(N-1):=by
    have e1:b ^ (F/r) % N % d=1:=by rw [Nat.mod_mod_of_dvd _ hdN];exact hFr
    refine Nat.dvd_of_mod_eq_zero ?_;have e2:(b ^ (F/r) % N+(N-1)) % d=(1+(N-1)) % d:=by rw [Nat.add_mod,e1,Nat.add_mod_mod]
    rw [e2,show 1+(N-1)=N by omega];exact Nat.mod_eq_zero_of_dvd hdN
   have:=Nat.dvd_gcd hdd hdN
   rw [h2 r hr] at this
   have:=Nat.le_of_dvd (by omega) this
   omega
  have inj:((List.range F).map fun i=>b ^ i % d).Nodup:=by
   refine List.pairwise_map.mpr (List.Pairwise.imp_of_mem (fun {i j} hi hj hij he=>?_) List.pairwise_lt_range);have hj:j<F:=List.mem_range.mp hj;refine no (j-i) (by omega) (by omega) ?_;have a1:b ^ (F-i)*b ^ i % d=1:=by rw [<- Nat.pow_add,Nat.sub_add_cancel (by omega)];exact hdF
   have a2:b ^ (F-i)*b ^ j % d=b ^ (j-i) % d:=by
    rw [<- Nat.pow_add,show F-i+j=F+(j-i) by omega,Nat.pow_add,Nat.mul_mod,hdF,Nat.one_mul,Nat.mod_mod]
   rw [<- a2,Nat.mul_mod,<- he,<- Nat.mul_mod];exact a1
  have sub:∀ z∈(List.range F).map (fun i=>b ^ i % d),z∈List.range' 1 (d-1):=fun z hz=>by
   obtain ⟨i,hi,rfl⟩:=List.mem_map.mp hz;have hi:i<F:=List.mem_range.mp hi;rw [List.mem_range'_1];have hlt:=Nat.mod_lt (b ^ i) (show d>0 by omega);have hnz:b ^ i % d≠0:=fun z=>by
    have a1:b ^ (F-i)*b ^ i % d=1:=by rw [<- Nat.pow_add,Nat.sub_add_cancel (by omega)];exact hdF
    rw [Nat.mul_mod,z,Nat.mul_zero,Nat.zero_mod] at a1;cases a1
   omega
  have:=Hg.uQ inj sub
  rw [List.length_map,List.length_range,List.length_range'] at this;omega
 refine ⟨hN,fun x h0 hx=>?_⟩;refine Classical.byContradiction fun hg=>?_
 have hgN:=Nat.gcd_dvd_right x N;have hgx:Nat.gcd x N<=x:=Nat.gcd_le_left N h0;have hgp:0<Nat.gcd x N:=Nat.gcd_pos_of_pos_left N h0;obtain ⟨c,hc⟩:=hgN;have k1:=key _ (Nat.gcd_dvd_right x N) (by omega);have hc1:1<c:=by
  rcases Nat.lt_or_ge 1 c with z | z
  ·exact z
  ·have:Nat.gcd x N*c<=Nat.gcd x N*1:=Nat.mul_le_mul_left _ z
   omega
 have k2:=key c ⟨_,by rw [Nat.mul_comm];exact hc⟩ hc1
 have:=Nat.mul_lt_mul'' k1 k2
 omega
theorem Ee {k g:Nat}(h:g∣2 ^ (k+1))(hl:g<2 ^ (k+1)):g∣2 ^ (k+1)/2:=by
 obtain ⟨c,hc⟩:=h;have hc2:c % 2=0:=by
  refine Classical.byContradiction fun z=>?_
  have hco:Nat.Coprime c 2:=by
   show Nat.gcd c 2=1;rw [Nat.gcd_comm,Nat.gcd_rec,show c % 2=1 by omega];rfl
  have h1:=Nat.Coprime.pow_right (k+1) hco;have h2:c∣2 ^ (k+1):=⟨g,by rw [hc,Nat.mul_comm]⟩;have h3:=Nat.Coprime.eq_one_of_dvd h1 h2;rw [h3,Nat.mul_one] at hc;omega
 refine ⟨c/2,?_⟩;rw [hc]
 have:c=2*(c/2):=by omega
 rw [Nat.mul_div_assoc _ (Nat.dvd_of_mod_eq_zero hc2)]
theorem rD (h k:Nat)(hh:h<2 ^ (k+1))(h0:0<h)(hp:pm (h*2 ^ (k+1)+1) (k+1+k+1) 3 (h*2 ^ k)=h*2 ^ (k+1)):dP (h*2 ^ (k+1)+1):=by
 have hpos:0<2 ^ k:=Nat.pow_pos (by decide);have hs:2 ^ (k+1)=2*2 ^ k:=by rw [Nat.pow_succ,Nat.mul_comm]
 have hN:1<h*2 ^ (k+1)+1:=by have:=Nat.mul_pos h0 (Nat.pow_pos (n:=k+1) (show 0<2 by decide));omega
 have hlt:h*2 ^ k<2 ^ (k+1+k+1):=by
  have:=Nat.mul_lt_mul_of_lt_of_le hh (Nat.le_refl (2 ^ k)) hpos
  rw [<- Nat.pow_add] at this;exact Nat.lt_trans this (Nat.pow_lt_pow_right (by decide) (by omega))
 rw [Bo _ _ _ hlt] at hp;refine nO (F:=2 ^ (k+1)) (b:=3 ^ h) [2] hN ?_ ?_ ?_ fun g hg hl=>⟨2,by simp,Ee hg hl⟩
 ·have:=Nat.mul_le_mul_right (2 ^ (k+1)) (show h+1<=2 ^ (k+1) from hh)
  rw [Nat.add_mul] at this
  have:=Nat.pow_pos (n:=k+1) (show 0<2 by decide)
  omega
 ·have e3:3 ^ (h*2 ^ (k+1))=3 ^ (h*2 ^ k)*3 ^ (h*2 ^ k):=by
   rw [hs,show h*(2*2 ^ k)=h*2 ^ k*2 by rw [Nat.mul_comm 2,Nat.mul_assoc],Nat.pow_mul,Nat.pow_two]
  rw [<- Nat.pow_mul,e3,Nat.mul_mod,hp];have e:∀ x:Nat,0<x->x*x % (x+1)=1:=fun x hx=>by
   rw [show x*x=1+(x+1)*(x-1) by
    have:x*x=(x-1+1)*x:=by rw [Nat.sub_add_cancel hx]
    have h2:(x+1)*(x-1)=x*(x-1)+(x-1):=by rw [Nat.add_mul,Nat.one_mul]
    have h3:x*x=x*(x-1)+x:=by
     have:x*x=x*(x-1+1):=by rw [Nat.sub_add_cancel hx]
     rw [this,Nat.mul_add,Nat.mul_one]
    omega,Nat.add_mul_mod_self_left,Nat.mod_eq_of_lt (by omega)]
  exact e _ (Nat.mul_pos h0 (Nat.pow_pos (by decide)))
 ·intro r hr
  obtain rfl:=List.mem_singleton.mp hr;rw [<- Nat.pow_mul,hs,Nat.mul_div_cancel_left _ (by decide),<- hs,hp,Nat.add_sub_cancel];have e:∀ x:Nat,x % 2=0->Nat.gcd (x+x) (x+1)=1:=fun x hx=>by
   have:Nat.gcd (x+x) (x+1)∣2:=by
    have a1:=Nat.gcd_dvd_left (x+x) (x+1);have a2:=Nat.gcd_dvd_right (x+x) (x+1);have a3:=Nat.dvd_sub (Nat.dvd_mul_left_of_dvd a2 2) a1;rw [show 2*(x+1)-(x+x)=2 by omega] at a3;exact a3
   have hle:=Nat.le_of_dvd (by decide) this;have hpos:=Nat.gcd_pos_of_pos_right (x+x) (show 0<x+1 by omega);rcases Nat.lt_or_ge (Nat.gcd (x+x) (x+1)) 2 with z | z
   ·omega
   ·have e2:Nat.gcd (x+x) (x+1)=2:=by omega
    have a2:=Nat.gcd_dvd_right (x+x) (x+1);rw [e2] at a2;omega
  refine e _ ?_;rw [hs,<- Nat.mul_assoc,Nat.mul_comm h 2,Nat.mul_assoc];exact Nat.mul_mod_right ..
theorem Nv:dP (133*2 ^ 192+1):=rD 133 191 (by decide +kernel) (by decide) (by decide +kernel)
def zI (N:Nat):Bool:=decide (1<N)&&(List.range N).all fun x=>x==0||Nat.gcd x N==1
theorem Br (h:zI N=true):dP N:=by
 unfold zI at h;rw [Bool.and_eq_true,decide_eq_true_iff,List.all_eq_true] at h;refine ⟨h.1,fun x h0 hx=>?_⟩
 have:=h.2 x (List.mem_range.mpr hx)
 rw [Bool.or_eq_true,beq_iff_eq,beq_iff_eq] at this;omega
theorem dP.cop {r c:Nat}(h:dP r)(hc:¬ r∣c):Nat.Coprime c r:=by
 show Nat.gcd c r=1;rw [Nat.gcd_comm,Nat.gcd_rec];have h1:=h.1;exact h.2 (c % r) (Nat.pos_of_ne_zero fun z=>hc (Nat.dvd_of_mod_eq_zero z)) (Nat.mod_lt _ (by omega))
theorem xE:∀ (rs:List Nat),(∀ r∈rs,dP r)->∀ c,c∣rs.prod->c≠1->∃ r∈rs,r∣c
 | [],_,c,h,h1=>absurd (Nat.eq_one_of_dvd_one h) h1
 | r::rs,hp,c,h,h1=>by
  by_cases hr:r∣c
  ·exact ⟨r,by simp,hr⟩
  ·rw [List.prod_cons] at h
   obtain ⟨r',h2,h3⟩:=xE rs (fun x hx=>hp x (List.mem_cons_of_mem _ hx)) c (Nat.Coprime.dvd_of_dvd_mul_left ((hp r (by simp)).cop hr) h) h1;exact ⟨r',List.mem_cons_of_mem _ h2,h3⟩
theorem Qh:dP 2305843009213693951:=by
 have ps:∀ r∈[61,151,331,1321],dP r:=fun r hr=>Br (by
  have:∀ r∈[61,151,331,1321],zI r=true:=by decide +kernel
  exact this r hr)
 refine nO (F:=4027518961) (b:=429339995019680672) [61,151,331,1321] (by decide) (by decide) ?_ ?_ fun g hg hl=>?_
 ·rw [<- Bo 32 _ _ (by decide)]
  decide +kernel
 ·intro r hr
  have key:∀ r∈[61,151,331,1321],Nat.gcd (pm 2305843009213693951 32 429339995019680672 (4027518961/r)+(2305843009213693951-1)) 2305843009213693951=1:=by decide +kernel
  rw [<- Bo 32 _ _ (Nat.lt_of_le_of_lt (Nat.div_le_self _ _) (by decide))];exact key r hr
 ·obtain ⟨c,hc⟩:=hg
  have hF:([61,151,331,1321]:List Nat).prod=4027518961:=by decide
  obtain ⟨r,hr,q,rfl⟩:=xE _ ps c (by rw [hF];exact ⟨g,by rw [hc,Nat.mul_comm]⟩) fun z=>by rw [z,Nat.mul_one] at hc;omega
  have h0:=(ps r hr).1;refine ⟨r,hr,q,?_⟩;rw [hc,show g*(r*q)=r*(g*q) by rw [<- Nat.mul_assoc,Nat.mul_comm g r,Nat.mul_assoc],Nat.mul_div_cancel_left _ (by omega)]
theorem Ny:dP (211*2 ^ 192+1):=rD 211 191 (by decide +kernel) (by decide) (by decide +kernel)
theorem Np:dP (598*2 ^ 192+1):=rD 598 191 (by decide +kernel) (by decide) (by decide +kernel)
theorem Pi:dP (652*2 ^ 192+1):=rD 652 191 (by decide +kernel) (by decide) (by decide +kernel)
theorem Nm:dP (721*2 ^ 192+1):=rD 721 191 (by decide +kernel) (by decide) (by decide +kernel)
theorem Oo:dP (850*2 ^ 192+1):=rD 850 191 (by decide +kernel) (by decide) (by decide +kernel)
theorem Ma:dP (1282*2 ^ 192+1):=rD 1282 191 (by decide +kernel) (by decide) (by decide +kernel)
set_option genInjectivity false in
structure Euc (pr:Nat)(num:Int)(last rest:Nat)(lt t:Int):Prop where
 pos:1<=rest
 lp:1<=last
 cop:Nat.gcd rest last=1
 ct:Cg pr (t*num) rest
 cl:Cg pr (lt*num) last
 bd:t.natAbs*last+lt.natAbs*rest<=pr
theorem Euc.init {pr:Nat}{num:Int}{r:Nat}(h:dP pr)(hr:num % pr=r)(h0:r≠0):Euc pr num pr r 0 1:=by
 have h1:=h.1;have hlt:(r:Int)<pr:=by rw [<- hr];exact Int.emod_lt_of_pos _ (by omega)
 refine ⟨by omega,by omega,h.2 r (by omega) (by omega),?_,?_,by simp⟩
 ·rw [Int.one_mul,<- hr]
  exact (mE num).symm
 ·rw [Int.zero_mul]
  unfold Cg;rw [Int.zero_sub];exact Int.dvd_neg.mpr (Int.dvd_refl _)
theorem Euc.step {pr:Nat}{num:Int}{last rest:Nat}{lt t:Int}(h:Euc pr num last rest lt t)(h1:rest≠1):Euc pr num rest (last % rest) t (lt-(last/rest:Nat)*t):=by
 have hp:=h.pos;have hd:=Nat.div_add_mod last rest;have hd2:((last:Nat):Int)=rest*(last/rest:Nat)+(last % rest:Nat):=by exact_mod_cast hd.symm
 refine ⟨?_,hp,?_,?_,h.ct,?_⟩
 ·refine Nat.pos_of_ne_zero fun z=>h1 ?_
  have:=h.cop
  rw [Nat.gcd_eq_left (Nat.dvd_of_mod_eq_zero z)] at this;exact this
 ·rw [<- Nat.gcd_rec]
  exact h.cop
 ·have e:(lt-(last/rest:Nat)*t)*num=lt*num-(last/rest:Nat)*(t*num):=by rw [Int.sub_mul,Int.mul_assoc]
  rw [e,show ((last % rest:Nat):Int)=(last:Int)-(last/rest:Nat)*(rest:Int) by rw [hd2,Int.mul_comm];omega];exact h.cl.sub ((Cg.refl _).mul h.ct)
 ·have hb:=h.bd
  have a1:(lt-(last/rest:Nat)*t).natAbs<=lt.natAbs+(last/rest)*t.natAbs:=by
   have:=Int.natAbs_sub_le lt ((last/rest:Nat)*t)
   rw [Int.natAbs_mul,Int.natAbs_natCast] at this;exact this
  have a2:=Nat.mul_le_mul_right rest a1;rw [Nat.add_mul] at a2;have a3:t.natAbs*last=(last/rest)*t.natAbs*rest+t.natAbs*(last % rest):=by
   conv=>lhs;rw [<- hd,Nat.mul_add,<- Nat.mul_assoc,Nat.mul_comm t.natAbs rest,Nat.mul_assoc,Nat.mul_comm rest]
   rw [Nat.mul_comm t.natAbs]
  omega
theorem Euc.tle {pr:Nat}{num:Int}{last rest:Nat}{lt t:Int}(h:Euc pr num last rest lt t):t.natAbs<=pr∧lt.natAbs<=pr:=by
 have hb:=h.bd;have h1:=Nat.mul_le_mul_left t.natAbs h.lp;have h2:=Nat.mul_le_mul_left lt.natAbs h.pos;omega
theorem Euc.fin {pr:Nat}{num:Int}{last rest:Nat}{lt t:Int}(h:Euc pr num last rest lt t)(h1:rest=1):Cg pr (t % pr*num) 1:=by
 have:=h.ct
 rw [h1] at this;exact ((mE t).mul (Cg.refl num)).trans this
theorem crt {M1 pr:Nat}{D res r2 inv:Int}(hM:0<M1)(hp:0<pr)(h1:Cg M1 res D)(h2:Cg pr r2 D)(hi:Cg pr (inv*M1) 1)(h0:0<=res∧res<M1):Cg (M1*pr:Nat) (res+(r2-res)*inv % pr*M1) D∧0<=res+(r2-res)*inv % pr*M1∧res+(r2-res)*inv % pr*M1<(M1*pr:Nat):=by
 have e0:=Int.emod_nonneg ((r2-res)*inv) (show (pr:Int)≠0 by omega);have e1:=Int.emod_lt_of_pos ((r2-res)*inv) (show (0:Int)<pr by omega);have hc:=mE (m:=pr) ((r2-res)*inv);generalize (r2-res)*inv % pr=q at e0 e1 hc;refine ⟨?_,?_,?_⟩
 ·have a1:Cg M1 (res+q*M1) D:=by
   have:Cg M1 (q*M1) 0:=by
    unfold Cg;rw [Int.sub_zero];exact Int.dvd_mul_left ..
   have:=h1.add this
   rwa [Int.add_zero] at this
  have a2:Cg pr (res+q*M1) D:=by
   have b1:Cg pr (q*M1) (r2-res):=by
    refine (hc.mul (Cg.refl (M1:Int))).trans ?_;rw [Int.mul_assoc]
    have:=(Cg.refl (m:=pr) (r2-res)).mul hi
    rwa [Int.mul_one] at this
   have:=(Cg.refl (m:=pr) res).add b1
   rw [show res+(r2-res)=r2 by omega] at this;exact this.trans h2
  unfold Cg at a1 a2 hi ⊢;obtain ⟨x,hx⟩:=a1;rw [hx] at a2 ⊢;have a3:(pr:Int)∣x:=by
   have c1:(pr:Int)∣inv*(M1*x):=Int.dvd_mul_of_dvd_right a2;have c2:(pr:Int)∣(inv*M1-1)*x:=Int.dvd_mul_of_dvd_left hi
   have:=Int.dvd_sub c1 c2
   rw [show inv*(M1*x)-(inv*M1-1)*x=x by rw [Int.sub_mul,Int.mul_assoc];omega] at this;exact this
  obtain ⟨y,rfl⟩:=a3;refine ⟨y,?_⟩;rw [<- Int.mul_assoc,Int.natCast_mul]
 ·have:=Int.mul_nonneg e0 (show (0:Int)<=M1 by omega)
  omega
 ·have a:=Int.mul_le_mul_of_nonneg_right (show q<=(pr:Int)-1 by omega) (show (0:Int)<=M1 by omega)
  rw [Int.sub_mul,Int.one_mul] at a;rw [Int.natCast_mul,Int.mul_comm (M1:Int)];omega
theorem Bt {M:Nat}{D res bd:Int}(hm:2*bd<M)(hD : -bd<=D∧D<=bd)(h:Cg M res D)(h0:0<=res∧res<M):(if bd<res then res-M else res)=D:=by
 obtain ⟨k,hk⟩:=h;have k0:k=0∨k=1:=by
  rcases Int.lt_or_le k 0 with z | z
  ·have:=Int.mul_le_mul_of_nonneg_left (show k<=-1 by omega) (show (0:Int)<=M by omega)
   omega
  ·rcases Int.lt_or_le 1 k with y | y
   ·have:=Int.mul_le_mul_of_nonneg_left (show 2<=k by omega) (show (0:Int)<=M by omega)
    omega
   ·omega
 rcases k0 with rfl | rfl
 ·rw [Int.mul_zero] at hk
  rw [if_neg (by omega)];omega
 ·rw [Int.mul_one] at hk
  rw [if_pos (by omega)];omega
end
theorem Ds {pr p:Nat}{rest top0 inv dN dM D:Int}(hr:0<rest∧rest<pr)(hi:Cg pr (inv*top0) 1)(hE:Cg pr dN (sg p*(top0*dM)))(hD:Cg pr (rest*dN) D) :
  (0<(if p % 2=1 then (pr:Int)-rest*top0 % pr else rest*top0 % pr)∧(if p % 2=1 then (pr:Int)-rest*top0 % pr else rest*top0 % pr)<pr)∧Cg pr ((if p % 2=1 then (pr:Int)-rest*top0 % pr else rest*top0 % pr)*dM) D:=by
 have h0:=Int.emod_nonneg (rest*top0) (show (pr:Int)≠0 by omega);have h1:=Int.emod_lt_of_pos (rest*top0) (show (0:Int)<pr by omega);have hc:=mE (m:=pr) (rest*top0);have hnz:rest*top0 % pr≠0:=fun z=>by
  rw [z] at hc;have a1:=(hc.mul (Cg.refl (m:=pr) inv));rw [Int.zero_mul,Int.mul_assoc,Int.mul_comm top0] at a1;have a2:=(Cg.refl (m:=pr) rest).mul hi;rw [Int.mul_one] at a2;have a3:=a1.trans a2;unfold Cg at a3;rw [Int.zero_sub] at a3
  have:=Int.le_of_dvd hr.1 (Int.dvd_neg.mp a3)
  omega
 generalize rest*top0 % pr=x at h0 h1 hc hnz;have key:Cg pr (x*dM) (rest*(top0*dM)):=by
  rw [<- Int.mul_assoc];exact hc.mul (Cg.refl _)
 have hE2:=((Cg.refl (m:=pr) rest).mul hE).symm.trans hD;by_cases hp:p % 2=1
 ·rw [if_pos hp]
  have hs:sg p = -1:=by unfold sg;rw [if_neg (by omega)]
  rw [hs] at hE2;refine ⟨⟨by omega,by omega⟩,?_⟩;have a1:Cg pr (((pr:Int)-x)*dM) (-(x*dM)):=by
   unfold Cg;rw [Int.sub_mul,show (pr:Int)*dM-x*dM - -(x*dM)=pr*dM by omega];exact Int.dvd_mul_right ..
  refine a1.trans (key.neg.trans ?_);rw [show -(rest*(top0*dM))=rest*(-1*(top0*dM)) by rw [Int.neg_mul,Int.one_mul,Int.mul_neg]];exact hE2
 ·rw [if_neg hp]
  have hs:sg p=1:=by unfold sg;rw [if_pos (by omega)]
  rw [hs,Int.one_mul] at hE2;exact ⟨⟨by omega,h1⟩,key.trans hE2⟩
def pL:List Nat->Nat
 | []=>1
 | x::l=>x*pL l
theorem zV (x:Nat):∀ l:List Nat,pL (l++[x])=pL l*x
 | []=>by show x*1=1*x;omega
 | y::l=>by
  show y*pL (l++[x])=y*pL l*x;rw [zV x l,Nat.mul_assoc]
theorem Em {R:Nat}:∀ {l:List Nat},(∀ x∈l,x<=R)->pL l<=R ^ l.length
 | [],_=>Nat.le_refl _
 | y::l,h=>by
  show y*pL l<=R ^ (l.length+1);rw [Nat.pow_succ,Nat.mul_comm];exact Nat.mul_le_mul (Em fun x hx=>h x (List.mem_cons_of_mem _ hx)) (h y (List.mem_cons_self ..))
def rs (n:Nat)(r:List Int):Nat:=sN n fun k=>(r.getD k 0).natAbs
theorem Kg (n:Nat):∀ M:List (List Int),pN M.length (fun i=>sN n fun k=>(ent M i k).natAbs)=pL (M.map (rs n))
 | []=>rfl
 | r::M=>by
  show (sN n fun k=>(ent (r::M) 0 k).natAbs)*pN M.length (fun i=>sN n fun k=>(ent (r::M) (i+1) k).natAbs)=rs n r*pL (M.map (rs n));rw [<- Kg n M];rfl
theorem Hv {f:Nat->Nat}:∀ {n k:Nat},k<n->f k<=sN n f
 | n+1,k,h=>by
  show f k<=sN n f+f n;rcases Nat.lt_or_ge k n with z | z
  ·have:=Hv (f:=f) z
   omega
  ·rw [show k=n by omega]
   omega
theorem Mg {n:Nat}{r:List Int}(hl:r.length=n){x:Int}(hx:x∈r):x.natAbs<=rs n r:=by
 obtain ⟨k,hk⟩:=List.getElem?_of_mem hx;have hkl:=(List.getElem?_eq_some_iff.mp hk).1
 have:=Hv (f:=fun k=>(r.getD k 0).natAbs) (n:=n) (k:=k) (by omega)
 rw [List.getD_eq_getElem?_getD,hk] at this;exact this
theorem Nd {M:List (List Int)}{n:Nat}(h:M.length=n):(det n (ent M)).natAbs<=pL (M.map (rs n)):=by
 rw [<- Kg,h];exact sU
def kn:List Nat:=[133,211,598,652,721,850,1282]
def pr (j:Nat):Nat:=kn.getD j 0*2 ^ 192+1
def md:Nat->Nat
 | 0=>2305843009213693951
 | j+1=>md j*pr j
theorem Gs:∀ {j:Nat},j<7->dP (pr j)
 | 0,_=>Nv
 | 1,_=>Ny
 | 2,_=>Np
 | 3,_=>Pi
 | 4,_=>Nm
 | 5,_=>Oo
 | 6,_=>Ma
 | j+7,h=>by omega
theorem Ni:∀ j,j<7->pr j<2 ^ 250∧md j % pr j≠0∧md j<2 ^ 1600∧md (j+1)<2 ^ 1800:=by decide +kernel
section
variable {n m p q i j k l:Nat}{A B T U:Mx}{f g:Nat->Int}{c:Nat->Int}
theorem wI (h:i<n):det n (cD A i fun _=>0)=0:=by
 have e:=lY (c:=1) (A:=A) (u:=fun _=>0) (v:=fun _=>0) h;rw [show (fun k:Nat=>(0:Int)+1*0)=fun _=>0 from rfl] at e;omega
def pI:Nat->(Nat->Int)->Int
 | 0,_=>1
 | n+1,f=>pI n f*f n
theorem wP:∀ {n:Nat} {f:Nat->Int},pI (n+1) f=f 0*pI n fun i=>f (i+1)
 | 0,f=>by show 1*f 0=f 0*1;omega
 | n+1,f=>by
  show pI (n+1) f*f (n+1)=f 0*(pI n (fun i=>f (i+1))*f (n+1));rw [wP (n:=n),Int.mul_assoc]
theorem Eu:∀ {n:Nat} {f:Nat->Int},(∀ i,i<n->f i=1)->pI n f=1
 | 0,_,_=>rfl
 | n+1,f,h=>by
  show pI n f*f n=1;rw [Eu (n:=n) fun i hi=>h i (by omega),h n (by omega)];rfl
theorem tF:∀ {n:Nat} {U:Mx},(∀ i k,k<i->i<n->U i k=0)->det n U=pI n fun i=>U i i
 | 0,_,_=>rfl
 | n+1,U,h=>by
  rw [Oj fun i hi=>h (i+1) 0 (by omega) (by omega),tF (n:=n) fun i k h1 h2=>h (i+1) (k+1) (by omega) (by omega),wP]
end
section
variable {n i j k l m:Nat}{A B:Mx}{f:Nat->Nat}{c:Int}
theorem Fw (hi:i<n)(hj:j<n)(hij:i≠j):det n (cD A i fun k=>A i k+c*A j k)=det n A:=by
 have e:=lY (c:=c) (A:=A) (u:=A i) (v:=A j) hi;have z:det n (cD A i (A j))=0:=by
  rcases Nat.lt_or_ge i j with h | h
  ·refine oK (j-(i+1)) (i:=i) (A:=cD A i (A j)) (by omega) fun k _=>?_
   rw [jV,show i+1+(j-(i+1))=j by omega,iP (by omega)]
  ·refine oK (i-(j+1)) (i:=j) (A:=cD A i (A j)) (by omega) fun k _=>?_
   rw [iP (by omega),show j+1+(i-(j+1))=i by omega,jV]
 rw [z,hX (A i) fun _=>rfl,Int.mul_zero,Int.add_zero] at e;exact e
def un (i k:Nat):Int:=if k=i then 1 else 0
def chM (n:Nat)(f:Nat->Nat):Mx:=fun i k=>un i k-if f i<n then un (f i) k else 0
def chS (n:Nat)(f:Nat->Nat)(S:Nat->Bool):Mx:=fun i k=>if S i=true then un i k else chM n f i k
theorem mW {S S':Nat->Bool}{a:Nat}(h:S a=S' a):chS n f S a k=chS n f S' a k:=by
 unfold chS;rw [h]
theorem Aa {S:Nat->Bool}(hi:i<n)(hS:S i=false)(hf:f i<n->S (f i)=true):det n (chS n f fun a=>S a||a==i)=det n (chS n f S):=by
 by_cases h:f i<n
 ·have hne:i≠f i:=fun z=>by have:=hf h;rw [<- z,hS] at this;cases this
  rw [<- Fw (A:=chS n f S) (i:=i) (j:=f i) (c:=1) hi h hne];refine bS fun a k _ _=>?_
  unfold cD
  try dsimp only
  by_cases ha:a=i
  ·subst ha
   rw [if_pos rfl];unfold chS
   try dsimp only
   rw [if_pos (by rw [beq_self_eq_true,Bool.or_true]),if_neg (by rw [hS];exact Bool.false_ne_true),if_pos (hf h)];unfold chM;rw [if_pos h];omega
  ·rw [if_neg ha]
   exact mW (by rw [beq_false_of_ne ha,Bool.or_false])
 ·refine bS fun a k _ _=>?_
  by_cases ha:a=i
  ·subst ha
   unfold chS
   try dsimp only
   rw [if_pos (by rw [beq_self_eq_true,Bool.or_true]),if_neg (by rw [hS];exact Bool.false_ne_true)];unfold chM;rw [if_neg h,Int.sub_zero]
  ·exact mW (by rw [beq_false_of_ne ha,Bool.or_false])
theorem Ky:∀ n:Nat,det n un=1
 | n=>by
  rw [tF (n:=n) fun i k h1 _=>by unfold un;rw [if_neg (by omega)]];exact Eu fun i _=>by unfold un;rw [if_pos rfl]
theorem Mj {d:Nat->Nat}(hd:∀ i,i<n->f i<n->d (f i)<d i):det n (chM n f)=1:=by
 have key:∀ m l,l<=n->det n (chS n f fun a=>decide (d a<m)||(decide (d a=m)&&decide (a<l)))=det n (chM n f):=fun m=>by
  induction m with
  | zero =>
   intro l
   induction l with
   | zero =>
    intro _;refine bS fun a k _ _=>?_
    unfold chS
    try dsimp only
    rw [if_neg (by simp)]
   | succ l ih =>
    intro hl;rw [<- ih (by omega)];by_cases h:d l=0
    ·have:=Aa (n:=n) (f:=f) (i:=l) (S:=fun a=>decide (d a<0)||(decide (d a=0)&&decide (a<l))) (by omega) (by simp) (fun hf=>by have:=hd l (by omega) hf;omega)
     rw [<- this]
     congr 2
     funext a
     by_cases ha:a=l
     ·subst ha
      simp [h]
     ·have e:decide (a<l+1)=decide (a<l):=by rw [decide_eq_decide];omega
      rw [e,beq_false_of_ne ha,Bool.or_false]
    ·congr 2
     funext a
     by_cases ha:a=l
     ·subst ha
      simp [h]
     ·have e:decide (a<l+1)=decide (a<l):=by rw [decide_eq_decide];omega
      rw [e]
  | succ m ihm =>
   intro l
   induction l with
   | zero =>
    intro _;rw [<- ihm n (Nat.le_refl n)];refine bS fun a k ha _=>?_
    have e:(decide (d a<m+1)||(decide (d a=m+1)&&decide (a<0)))=(decide (d a<m)||(decide (d a=m)&&decide (a<n))):=by
     rw [decide_eq_false (show ¬ a<0 by omega),decide_eq_true ha,Bool.and_false,Bool.or_false,Bool.and_true,Bool.eq_iff_iff,Bool.or_eq_true,decide_eq_true_iff,decide_eq_true_iff,decide_eq_true_iff];omega
    exact mW e
   | succ l ih =>
    intro hl;rw [<- ih (by omega)];by_cases h:d l=m+1
    ·have:=Aa (n:=n) (f:=f) (i:=l) (S:=fun a=>decide (d a<m+1)||(decide (d a=m+1)&&decide (a<l))) (by omega) (by simp [h]) (fun hf=>by
      have:=hd l (by omega) hf
      have:d (f l)<m+1:=by omega
      simp [this])
     rw [<- this]
     congr 2
     funext a
     by_cases ha:a=l
     ·subst ha
      simp [h]
     ·have e:decide (a<l+1)=decide (a<l):=by rw [decide_eq_decide];omega
      rw [e,beq_false_of_ne ha,Bool.or_false]
    ·congr 2
     funext a
     by_cases ha:a=l
     ·subst ha
      simp [h]
     ·have e:decide (a<l+1)=decide (a<l):=by rw [decide_eq_decide];omega
      rw [e]
 obtain ⟨m,hm⟩:∃ m,∀ i,i<n->d i<m:=by
  have:∀ N,∃ m,∀ i,i<N->d i<m:=fun N=>by
   induction N with
   | zero=>exact ⟨0,fun i h=>by omega⟩
   | succ N ih =>
    obtain ⟨m,hm⟩:=ih;refine ⟨m+d N+1,fun i h=>?_⟩;rcases Nat.lt_or_ge i N with z | z
    ·have:=hm i z
     omega
    ·rw [show i=N by omega]
     omega
  exact this n
 rw [<- key m 0 (Nat.zero_le _),<- Ky n];refine bS fun a k ha _=>?_
 unfold chS
 try dsimp only
 rw [if_pos (by simp [hm a ha])]
def itf (f:Nat->Nat):Nat->Nat->Nat
 | 0,i=>i
 | k+1,i=>f (itf f k i)
theorem Et (hi:i<n)(hl:∀ k,k<=m->itf f (k+1) i<n)(hr:itf f (m+1) i=i)(hne:∀ k,0<k->k<=m->itf f k i≠i):det n (chM n f)=0:=by
 have key:∀ k,k<=m->det n (cD (chM n f) i fun l=>un i l-un (itf f (k+1) i) l)=det n (chM n f):=fun k=>by
  induction k with
  | zero =>
   intro _;refine hX _ fun l=>?_
   unfold chM
   have:=hl 0 (Nat.zero_le _)
   rw [if_pos (show f i<n from this)];rfl
  | succ k ih =>
   intro hk;rw [<- ih (by omega)];have h1:=hl k (by omega);have h2:=hl (k+1) hk;have h3:=hne (k+1) (by omega) hk;rw [<- Fw (A:=cD (chM n f) i fun l=>un i l-un (itf f (k+1) i) l) (i:=i) (j:=itf f (k+1) i) (c:=1) hi h1 (fun z=>h3 z.symm)];refine bS fun a l _ _=>?_
   unfold cD
   try dsimp only
   by_cases ha:a=i
   ·subst ha
    rw [if_pos rfl,if_pos rfl,if_pos rfl,if_neg h3];unfold chM;rw [if_pos (show f (itf f (k+1) a)<n from h2)];show un a l-un (f (itf f (k+1) a)) l=_;omega
   ·rw [if_neg ha,if_neg ha,if_neg ha]
 rw [<- key m (Nat.le_refl _),hr,show (fun l=>un i l-un i l)=fun _=>0 by funext l;omega];exact wI hi
end
def rF (n i w:Nat):Nat->Int:=fun k=>un i k-if w<n then un w k else 0
def chA (n:Nat)(Ws:Nat->List Nat)(c:List Nat):Mx:=fun i k=>match c[i]? with
 | some w=>rF n i w k
 | none=>((Ws i).map fun w=>rF n i w k).sum
def Cn (Ws:Nat->List Nat):Nat->List (List Nat)
 | 0=>[[]]
 | m+1=>(Cn Ws m).flatMap fun c=>(Ws m).map fun w=>c++[w]
section
variable {n m i:Nat}{A:Mx}{Ws:Nat->List Nat}{c:List Nat}
theorem qD:∀ {m:Nat} {c:List Nat},c∈Cn Ws m->c.length=m
 | 0,c,h=>by rw [List.mem_singleton.mp h];rfl
 | m+1,c,h=>by
  obtain ⟨c',h1,h2⟩:=List.mem_flatMap.mp h;obtain ⟨w,_,rfl⟩:=List.mem_map.mp h2;rw [List.length_append,qD h1];rfl
theorem wR {g:Nat->Nat->Int}(hi:i<n):∀ l:List Nat,det n (cD A i fun k=>(l.map fun w=>g w k).sum)=(l.map fun w=>det n (cD A i (g w))).sum
 | []=>wI hi
 | w::l=>by
  have e:=uK (A:=A) (u:=g w) (v:=fun k=>(l.map fun w=>g w k).sum) hi;rw [List.map_cons,List.sum_cons,<- wR hi l,<- e];rfl
theorem Gm (hm:c.length=m)(h:m<n):det n (chA n Ws c)=((Ws m).map fun w=>det n (chA n Ws (c++[w]))).sum:=by
 have e1:det n (chA n Ws c)=det n (cD (chA n Ws c) m fun k=>((Ws m).map fun w=>rF n m w k).sum):=(hX _ fun k=>by
  show _=match c[m]? with
   | some w=>rF n m w k
   | none=>((Ws m).map fun w=>rF n m w k).sum
  rw [List.getElem?_eq_none (by omega)]).symm
 rw [e1,wR h]
 congr 1
 refine List.map_congr_left fun w _=>bS fun a k _ _=>?_
 unfold cD chA;by_cases ha:a=m
 ·subst ha
  rw [if_pos rfl,List.getElem?_append_right (by omega),hm,Nat.sub_self];rfl
 ·rw [if_neg ha]
  rcases Nat.lt_or_ge a m with z | z
  ·rw [List.getElem?_append_left (by omega)]
  ·rw [List.getElem?_eq_none (l:=c) (by omega),List.getElem?_eq_none (by rw [List.length_append,List.length_singleton];omega)]
theorem Al:∀ {m:Nat},m<=n->det n (chA n Ws [])=((Cn Ws m).map fun c=>det n (chA n Ws c)).sum
 | 0,_=>by
  show det n (chA n Ws [])=det n (chA n Ws [])+0;omega
 | m+1,h=>by
  rw [Al (m:=m) (by omega)];have key:∀ l:List (List Nat),(∀ c∈l,c.length=m)->(l.map fun c=>det n (chA n Ws c)).sum=((l.flatMap fun c=>(Ws m).map fun w=>c++[w]).map fun c=>det n (chA n Ws c)).sum:=fun l=>by
   induction l with
   | nil=>intro _;rfl
   | cons c l ih =>
    intro hl;rw [List.map_cons,List.sum_cons,List.flatMap_cons,List.map_append,List.sum_append,ih fun c hc=>hl c (List.mem_cons_of_mem _ hc),Gm (hl c (List.mem_cons_self ..)) (by omega),List.map_map];rfl
  exact key _ fun c hc=>qD hc
def goF (n:Nat)(c:List Nat)(i:Nat):Nat:=if i<n then c.getD i n else i
def goN (n:Nat)(c:List Nat):Nat->Nat->Nat
 | 0,i=>i
 | k+1,i=>goF n c (goN n c k i)
def nI (n:Nat)(c:List Nat):Prop:=∀ i,i<n->¬ goN n c n i<n
theorem Eb (hc:c.length=n):det n (chA n Ws c)=det n (chM n fun i=>c.getD i n):=bS fun a k ha _=>by
 unfold chA;rw [List.getElem?_eq_getElem (show a<c.length by omega)];show rF n a c[a] k=rF n a (c.getD a n) k;rw [show c.getD a n=c[a] by rw [List.getD_eq_getElem?_getD,List.getElem?_eq_getElem (show a<c.length by omega)];rfl]
theorem Bi {k:Nat}(h:¬ i<n):goN n c k i=i:=by
 induction k with
 | zero=>rfl
 | succ k ih =>
  show goF n c (goN n c k i)=i;rw [ih];unfold goF;rw [if_neg h]
theorem kA {k:Nat}:∀ l:Nat,goN n c (l+k) i=goN n c l (goN n c k i)
 | 0=>by rw [Nat.zero_add];rfl
 | l+1=>by
  rw [show l+1+k=(l+k)+1 by omega];show goF n c (goN n c (l+k) i)=goF n c (goN n c l (goN n c k i));rw [kA l]
theorem Bv {k:Nat}:goN n c (k+1) i=goN n c k (goF n c i):=by
 rw [show k+1=k+1 from rfl,kA k];rfl
theorem Cd (h:nI n c):det n (chM n fun i=>c.getD i n)=1:=by
 have ex:∀ i,∃ k,¬ goN n c k i<n:=fun i=>by
  by_cases hi:i<n
  ·exact ⟨n,h i hi⟩
  ·exact ⟨0,hi⟩
 have kM:∀ i,∃ k,¬ goN n c k i<n∧∀ j,j<k->goN n c j i<n:=fun i=>by
  obtain ⟨k,hk⟩:=ex i
  induction k with
  | zero=>exact ⟨0,hk,fun j hj=>by omega⟩
  | succ k ih =>
   by_cases h2:goN n c k i<n
   ·refine ⟨k+1,hk,fun j hj=>?_⟩
    refine Classical.byContradiction fun z=>?_
    have:goN n c (k-j+j) i=goN n c j i:=by rw [kA];exact Bi z
    rw [show k-j+j=k by omega] at this;rw [this] at h2;exact z h2
   ·exact ih h2
 refine Mj (d:=fun i=>Classical.choose (kM i)) fun i hi hf=>?_
 obtain ⟨a1,a2⟩:=Classical.choose_spec (kM i);obtain ⟨b1,b2⟩:=Classical.choose_spec (kM (c.getD i n));have hg:goF n c i=c.getD i n:=by unfold goF;rw [if_pos hi]
 show Classical.choose (kM (c.getD i n))<Classical.choose (kM i);generalize Classical.choose (kM i)=ka at a1 a2 ⊢;generalize Classical.choose (kM (c.getD i n))=kb at b1 b2 ⊢;refine Classical.byContradiction fun z=>?_
 cases ka with
 | zero=>exact a1 hi
 | succ ka =>
  rw [Bv,hg] at a1;exact a1 (b2 ka (by omega))
theorem Du (h:¬ nI n c):det n (chM n fun i=>c.getD i n)=0:=by
 obtain ⟨i,hi,hn⟩:∃ i,i<n∧goN n c n i<n:=by
  refine Classical.byContradiction fun z=>h fun i hi hn=>z ⟨i,hi,hn⟩
 have lt:∀ k,k<=n->goN n c k i<n:=fun k hk=>by
  refine Classical.byContradiction fun z=>?_
  have:goN n c (n-k+k) i=goN n c k i:=by rw [kA];exact Bi z
  rw [show n-k+k=n by omega] at this;rw [this] at hn;exact z hn
 obtain ⟨a,b,hab,hb,heq⟩:∃ a b,a<b∧b<=n∧goN n c a i=goN n c b i:=by
  refine Classical.byContradiction fun z=>?_
  have nd:((List.range (n+1)).map fun k=>goN n c k i).Nodup:=by
   refine List.pairwise_map.mpr (List.Pairwise.imp_of_mem (fun {x y} hx hy hxy he=>z ⟨x,y,hxy,?_,he⟩) List.pairwise_lt_range)
   have:=List.mem_range.mp hy
   omega
  have:=Hg.uQ (ms:=List.range n) nd fun y hy=>by
   obtain ⟨k,hk,rfl⟩:=List.mem_map.mp hy
   have:=List.mem_range.mp hk
   exact List.mem_range.mpr (lt k (by omega))
  rw [List.length_map,List.length_range,List.length_range] at this;omega
 have hj:=lt a (by omega);have step:∀ k,k+a<=n->goN n c k (goN n c a i)<n:=fun k hk=>by
  rw [<- kA];exact lt _ hk
 have hper:goN n c (b-a) (goN n c a i)=goN n c a i:=by
  rw [<- kA,show b-a+a=b by omega,heq]
 generalize goN n c a i=j at hj step hper;obtain ⟨p,hp0,hpb,hpp,hmin⟩:∃ p,0<p∧p<=b-a∧goN n c p j=j∧∀ q,0<q->q<p->goN n c q j≠j:=by
  have:∀ N p,p<=N->0<p->p<=b-a->goN n c p j=j->∃ p,0<p∧p<=b-a∧goN n c p j=j∧∀ q,0<q->q<p->goN n c q j≠j:=fun N=>by
   induction N with
   | zero=>intro p h1 h2;omega
   | succ N ih =>
    intro p h1 h2 h3 h4;by_cases hq:∃ q,0<q∧q<p∧goN n c q j=j
    ·obtain ⟨q,q1,q2,q3⟩:=hq
     exact ih q (by omega) q1 (by omega) q3
    ·exact ⟨p,h2,h3,h4,fun q q1 q2 q3=>hq ⟨q,q1,q2,q3⟩⟩
  exact this (b-a) (b-a) (Nat.le_refl _) (by omega) (Nat.le_refl _) hper
 have eq:∀ k,k<=p->itf (fun i=>c.getD i n) k j=goN n c k j:=fun k=>by
  induction k with
  | zero=>intro _;rfl
  | succ k ih =>
   intro hk;show c.getD (itf (fun i=>c.getD i n) k j) n=goF n c (goN n c k j);rw [ih (by omega)];unfold goF;rw [if_pos (step k (by omega))]
 refine Et (i:=j) (m:=p-1) hj (fun k hk=>?_) ?_ fun k h1 h2=>?_
 ·rw [eq (k+1) (by omega)]
  exact step (k+1) (by omega)
 ·rw [show p-1+1=p by omega,eq p (Nat.le_refl _),hpp]
 ·rw [eq k (by omega)]
  exact hmin k h1 (by omega)
theorem Cs [DecidablePred (nI n)]:det n (chA n Ws [])=(((Cn Ws n).filter fun c=>decide (nI n c)).length:Nat):=by
 rw [Al (Nat.le_refl n)];have key:∀ l:List (List Nat),(∀ c∈l,c.length=n)->(l.map fun c=>det n (chA n Ws c)).sum=((l.filter fun c=>decide (nI n c)).length:Nat):=fun l=>by
  induction l with
  | nil=>intro _;rfl
  | cons c l ih =>
   intro hl;rw [List.map_cons,List.sum_cons,ih fun c hc=>hl c (List.mem_cons_of_mem _ hc),Eb (hl c (List.mem_cons_self ..)),List.filter_cons];by_cases hc:nI n c
   ·rw [Cd hc,if_pos (decide_eq_true hc),List.length_cons]
    omega
   ·rw [Du hc,if_neg (by rw [decide_eq_false hc];exact Bool.false_ne_true)]
    omega
 exact key _ fun c hc=>qD hc
end
def cE (words:List (List Nat))(o:List Nat):Int:=((words.countP fun w=>decide (w.drop 1=o):Nat):Int)
def rI (texts:List (List Nat))(t:List Nat)(words:List (List Nat)):List Int:=texts.map fun o=>if o=t then ((words.length:Nat):Int)-cE words t else-cE words o
def wS (ls:List (List Nat))(g:List Nat->List (List Nat))(i:Nat):List Nat:=(g (ls.getD i [])).map fun w=>ls.idxOf (w.drop 1)
theorem Ih {w:List Nat}{ws:List (List Nat)}{o:List Nat}:cE (w::ws) o=cE ws o+if w.drop 1=o then 1 else 0:=by
 unfold cE;rw [List.countP_cons];by_cases h:w.drop 1=o
 ·rw [if_pos (decide_eq_true h),if_pos h];omega
 ·rw [if_neg (fun z=>h (of_decide_eq_true z)),if_neg h];omega
theorem xQ {ls:List (List Nat)}(hnd:ls.Nodup){i k:Nat}(hk:k<ls.length):∀ ws:List (List Nat),((ws.map fun w=>ls.idxOf (w.drop 1)).map fun w=>rF ls.length i w k).sum=(if i=k then ((ws.length:Nat):Int) else 0)-cE ws ls[k]
 | []=>by
  show (0:Int)=_-((0:Nat):Int);split <;> simp
 | w::ws=>by
  rw [List.map_cons,List.map_cons,List.sum_cons,xQ hnd hk ws,Ih];have e:(if ls.idxOf (w.drop 1)<ls.length then un (ls.idxOf (w.drop 1)) k else 0)=if w.drop 1=ls[k] then (1:Int) else 0:=by
   by_cases h:w.drop 1=ls[k]
   ·rw [if_pos h,h,hnd.idxOf_getElem,if_pos hk]
    simp [un]
   ·rw [if_neg h]
    split
    ·rename_i hlt
     have hne:ls.idxOf (w.drop 1)≠k:=fun z=>h (by
      have:=List.getElem_idxOf hlt
      subst z;exact this.symm)
     unfold un;rw [if_neg (Ne.symm hne)]
    ·rfl
  show un i k-(if ls.idxOf (w.drop 1)<ls.length then un (ls.idxOf (w.drop 1)) k else 0)+_=_;rw [e,List.length_cons];by_cases hik:i=k
  ·rw [if_pos hik,if_pos hik,hik]
   simp [un];omega
  ·rw [if_neg hik,if_neg hik]
   simp [un,hik,Ne.symm hik];omega
theorem Ev {ls:List (List Nat)}(hnd:ls.Nodup)(g:List Nat->List (List Nat)):det ls.length (ent (ls.map fun t=>rI ls t (g t)))=det ls.length (chA ls.length (wS ls g) []):=bS fun i k hi hk=>by
 show ((ls.map fun t=>rI ls t (g t)).getD i []).getD k 0=((wS ls g i).map fun w=>rF ls.length i w k).sum;unfold wS;rw [xQ hnd hk,List.getD_eq_getElem?_getD,List.getD_eq_getElem?_getD,List.getElem?_map,List.getElem?_eq_getElem hi];show ((rI ls ls[i] (g ls[i]))[k]?).getD 0=_;unfold rI;rw [List.getElem?_map,List.getElem?_eq_getElem hk,List.getD_eq_getElem?_getD,List.getElem?_eq_getElem hi];show (if ls[k]=ls[i] then _ else _)=(if i=k then (((g ls[i]).length:Nat):Int) else 0)-cE (g ls[i]) ls[k];by_cases hik:i=k
 ·subst hik
  rw [if_pos rfl,if_pos rfl]
 ·rw [if_neg hik,if_neg (fun z=>hik (by have a:=hnd.idxOf_getElem i hi;have b:=hnd.idxOf_getElem k hk;rw [z,a] at b;exact b)),Int.zero_sub]
def sT (ls:List (List Nat))(cw:List Nat->List Nat)(t:List Nat):List Nat:=if t∈ls then (cw t).drop 1 else t
def iT (ls:List (List Nat))(cw:List Nat->List Nat):Nat->List Nat->List Nat
 | 0,t=>t
 | k+1,t=>sT ls cw (iT ls cw k t)
def plc (ls:List (List Nat))(cw:List Nat->List Nat):List Nat:=ls.map fun t=>ls.idxOf ((cw t).drop 1)
theorem yU {ls:List (List Nat)}(cw:List Nat->List Nat){t:List Nat}:∀ k:Nat,goN ls.length (plc ls cw) k (ls.idxOf t)=ls.idxOf (iT ls cw k t)
 | 0=>rfl
 | k+1=>by
  show goF ls.length (plc ls cw) (goN ls.length (plc ls cw) k (ls.idxOf t))=ls.idxOf (sT ls cw (iT ls cw k t));rw [yU cw k];unfold goF sT;by_cases h:iT ls cw k t∈ls
  ·have hl:ls.idxOf (iT ls cw k t)<ls.length:=List.idxOf_lt_length_of_mem h
   rw [if_pos hl,if_pos h];unfold plc;rw [List.getD_eq_getElem?_getD,List.getElem?_map,List.getElem?_eq_getElem hl,List.getElem_idxOf hl];rfl
  ·have hl:¬ ls.idxOf (iT ls cw k t)<ls.length:=fun z=>h (List.idxOf_lt_length_iff.mp z)
   rw [if_neg hl,if_neg h]
theorem Ce {ls:List (List Nat)}(hnd:ls.Nodup)(cw:List Nat->List Nat):nI ls.length (plc ls cw)↔(ls.all fun t=>decide (iT ls cw ls.length t∉ls))=true:=by
 rw [List.all_eq_true];constructor
 ·intro h t ht
  refine decide_eq_true fun z=>h (ls.idxOf t) (List.idxOf_lt_length_of_mem ht) ?_
  rw [yU];exact List.idxOf_lt_length_of_mem z
 ·intro h i hi z
  have e:=yU (ls:=ls) cw (t:=ls[i]) ls.length;rw [hnd.idxOf_getElem i hi] at e;rw [e] at z;exact of_decide_eq_true (h ls[i] (List.getElem_mem hi)) (List.idxOf_lt_length_iff.mp z)
inductive R2 {α β:Type}(R:α->β->Prop):List α->List β->Prop
 | nil:R2 R [] []
 | cons {a:α} {b:β} {as:List α} {bs:List β}:R a b->R2 R as bs->R2 R (a::as) (b::bs)
section
variable {α β:Type}{R R':α->β->Prop}{as:List α}{bs:List β}
end
abbrev W:=List Nat
def fN (f:W->W)(t w:W):W->W:=fun x=>if x=t then w else f x
theorem Di {f:W->W}{a b x y:W}(h:a≠b):fN (fN f a x) b y=fN (fN f b y) a x:=by
 funext z
 unfold fN;by_cases h1:z=b
 ·rw [if_pos h1,if_neg (fun e=>h (e.symm.trans h1)),if_pos h1]
 ·rw [if_neg h1,if_neg h1]
theorem sZ {f:W->W}{t w:W}:fN f t w t=w:=by unfold fN;rw [if_pos rfl]
theorem Au {f:W->W}{t w x:W}(h:x≠t):fN f t w x=f x:=by unfold fN;rw [if_neg h]
def chs (g:W->List W):List W->List (W->W)
 | []=>[fun _=>[]]
 | t::ls=>(chs g ls).flatMap fun f=>(g t).map fun w=>fN f t w
theorem uZ {α β γ:Type}{F:α->β->γ}(as:List α)(bs:List β):(as.flatMap fun a=>bs.map fun b=>F a b).Perm (bs.flatMap fun b=>as.map fun a=>F a b):=by
 induction as with
 | nil=>simp
 | cons a as ih =>
  rw [List.flatMap_cons];refine (List.Perm.append_left _ ih).trans ?_;clear ih
  induction bs with
  | nil=>simp
  | cons b bs ih2 =>
   rw [List.flatMap_cons,List.flatMap_cons,List.map_cons,List.map_cons,List.cons_append,List.cons_append];refine List.Perm.cons _ ?_;refine List.Perm.trans ?_ (List.Perm.append_left _ ih2);rw [<- List.append_assoc,<- List.append_assoc];exact List.Perm.append_right _ List.perm_append_comm
theorem gR {α β:Type}{F G:α->List β}:∀ {l:List α},(∀ a∈l,(F a).Perm (G a))->(l.flatMap F).Perm (l.flatMap G)
 | [],_=>by simp
 | a::l,h=>by
  rw [List.flatMap_cons,List.flatMap_cons];exact (h a (List.mem_cons_self ..)).append (gR fun b hb=>h b (List.mem_cons_of_mem _ hb))
theorem Fi {g:W->List W}{ls ms:List W}(h:ls.Perm ms):ls.Nodup->(chs g ls).Perm (chs g ms):=by
 induction h with
 | nil=>intro _;exact .refl _
 | cons t _ ih=>intro hn;exact (ih (List.nodup_cons.mp hn).2).flatMap_right _
 | swap a b l =>
  intro hn;have hab:b≠a:=fun e=>(List.nodup_cons.mp hn).1 (e▸List.mem_cons_self ..)
  show (((chs g l).flatMap fun f=>(g a).map fun w=>fN f a w).flatMap fun f=>(g b).map fun w=>fN f b w).Perm (((chs g l).flatMap fun f=>(g b).map fun w=>fN f b w).flatMap fun f=>(g a).map fun w=>fN f a w);rw [List.flatMap_assoc,List.flatMap_assoc];refine gR fun f _=>?_
  rw [List.flatMap_map,List.flatMap_map];have e:(fun x=>(g a).map fun y=>fN (fN f b x) a y)=fun x=>(g a).map fun y=>fN (fN f a y) b x:=by
   funext x;congr 1;funext y;exact Di hab
  have e2:=uZ (F:=fun x y=>fN (fN f a x) b y) (g a) (g b);refine e2.trans ?_;rw [e]
 | trans h1 _ ih1 ih2=>intro hn;exact (ih1 hn).trans (ih2 (h1.nodup_iff.mp hn))
def cmT (ls:List W)(cw:W->W):Bool:=ls.all fun t=>decide (iT ls cw ls.length t∉ls)
theorem vC {ls ms:List W}(h:∀ t,t∈ls↔t∈ms){cw:W->W}{t:W}:∀ k,iT ls cw k t=iT ms cw k t
 | 0=>rfl
 | k+1=>by
  show sT ls cw (iT ls cw k t)=sT ms cw (iT ms cw k t);rw [vC h k];unfold sT;by_cases e:iT ms cw k t∈ms
  ·rw [if_pos e,if_pos ((h _).mpr e)]
  ·rw [if_neg e,if_neg (fun z=>e ((h _).mp z))]
theorem xD {ls ms:List W}(h:ls.Perm ms)(cw:W->W):cmT ls cw=cmT ms cw:=by
 unfold cmT;rw [Bool.eq_iff_iff,List.all_eq_true,List.all_eq_true];have hm:∀ t,t∈ls↔t∈ms:=fun t=>h.mem_iff
 constructor
 ·intro q t ht
  have:=of_decide_eq_true (q t ((hm t).mpr ht))
  rw [vC hm,h.length_eq] at this;exact decide_eq_true fun z=>this ((hm _).mpr z)
 ·intro q t ht
  have:=of_decide_eq_true (q t ((hm t).mp ht))
  rw [<- vC hm,<- h.length_eq] at this;exact decide_eq_true fun z=>this ((hm _).mp z)
def nC (ls:List W)(g:W->List W):Nat:=((chs g ls).filter (cmT ls)).length
theorem vP {ls ms:List W}(h:ls.Perm ms)(hn:ls.Nodup)(g:W->List W):nC ls g=nC ms g:=by
 unfold nC;rw [((Fi (g:=g) h hn).filter (cmT ls)).length_eq]
 congr 2
 funext f
 exact xD h f
theorem tD {g g':W->List W}:∀ {ls:List W},(∀ t∈ls,g t=g' t)->chs g ls=chs g' ls
 | [],_=>rfl
 | t::ls,h=>by
  show (chs g ls).flatMap _=(chs g' ls).flatMap _;rw [tD fun x hx=>h x (List.mem_cons_of_mem _ hx),h t (List.mem_cons_self ..)]
theorem xY {ls:List W}(hn:ls.Nodup){g:W->List W}:∀ m,m<=ls.length->Cn (wS ls g) m=(chs g (ls.take m).reverse).map fun f=>(ls.take m).map fun t=>ls.idxOf ((f t).drop 1)
 | 0,_=>by rw [List.take_zero];rfl
 | m+1,h=>by
  have hm:m<ls.length:=h;have ht:ls.take (m+1)=ls.take m++[ls[m]]:=by rw [List.take_add_one,List.getElem?_eq_getElem hm];rfl
  rw [ht,List.reverse_append];show (Cn (wS ls g) m).flatMap _=((chs g (ls.take m).reverse).flatMap fun f=>(g ls[m]).map fun w=>fN f ls[m] w).map _;rw [xY hn m (by omega),List.flatMap_map,List.map_flatMap];have hnot:ls[m]∉ls.take m:=fun z=>by
   have nd:(ls.take m++[ls[m]]).Nodup:=ht▸hn.sublist (List.take_sublist (m+1) ls);exact (List.nodup_append.mp nd).2.2 _ z _ (List.mem_singleton.mpr rfl) rfl
  congr 1
  funext f
  unfold wS;rw [List.getD_eq_getElem?_getD,List.getElem?_eq_getElem hm,List.map_map,List.map_map];refine List.map_congr_left fun w _=>?_
  show (ls.take m).map _++[_]=(ls.take m++[ls[m]]).map _;rw [List.map_append,List.map_singleton]
  congr 1
  ·refine List.map_congr_left fun t ht=>?_
   show _=ls.idxOf ((fN f ls[m] w t).drop 1);rw [Au (fun e=>hnot (by rw [<- e];exact ht))]
  ·show _=[ls.idxOf ((fN f ls[m] w ls[m]).drop 1)]
   rw [sZ]
theorem Lh {ls:List W}(hn:ls.Nodup)(g:W->List W):det ls.length (ent (ls.map fun t=>rI ls t (g t)))=((nC ls g:Nat):Int):=by
 classical
 rw [Ev hn,Cs,xY hn ls.length (Nat.le_refl _),List.take_length];rw [vP (List.reverse_perm ls).symm hn g];unfold nC;rw [List.filter_map,List.length_map]
 congr 3
 funext f
 rw [xD (List.reverse_perm ls)];show decide (nI ls.length (plc ls f))=cmT ls f;rw [Bool.eq_iff_iff,decide_eq_true_iff];exact Ce hn f
theorem oY {g:W->List W}:∀ ls:List W,(chs g ls).length<=2 ^ (ls.map fun t=>(g t).length).sum
 | []=>Nat.le_refl 1
 | t::ls=>by
  have ih:=oY (g:=g) ls;have e:(chs g (t::ls)).length=(chs g ls).length*(g t).length:=by
   show ((chs g ls).flatMap fun f=>(g t).map fun w=>fN f t w).length=_;generalize chs g ls=l
   induction l with
   | nil=>simp
   | cons f l ihl=>rw [List.flatMap_cons,List.length_append,List.length_map,ihl,List.length_cons,Nat.add_mul,Nat.one_mul,Nat.add_comm]
  rw [e,List.map_cons,List.sum_cons,Nat.pow_add,Nat.mul_comm];exact Nat.mul_le_mul (Nat.le_of_lt Nat.lt_two_pow_self) ih
end Dt
namespace Hg
variable {bg en:List Nat->List Nat}
def Tr (bg en:List Nat->List Nat):List Nat->List (List Nat)->List Nat->Prop
 | p,[],q=>p=q
 | p,w::ws,q=>bg w=p∧Tr bg en (en w) ws q
end Hg
namespace Wd
open Hg
def beg (l:W):W:=l.take (l.length-1)
def fin (l:W):W:=l.drop 1
def sl (t:W)(i j:Nat):W:=(t.drop i).take (j-i)
def hd (w:W):Nat:=w.getD 0 0
section
variable {t:W}{n a b c d:Nat}
end
end Wd
namespace Wd
section
variable {r g:W}{n:Nat}
end
def num (k:Nat)(w:W):Nat:=w.foldl (fun a c=>a*k+(c-97)) 0
def Okk (k:Nat)(w:W):Prop:=∀ c∈w,97<=c∧c<97+k
def Lst (w:W):Prop:=w=kM w
def fill (k n:Nat)(p:W):W:=p++List.replicate (n-p.length) (96+k)
instance (w:W):Decidable (Lst w):=inferInstanceAs (Decidable (w=kM w))
set_option genInjectivity false in
structure LW (k n:Nat)(w:W):Prop where
 len:w.length=n
 ok:Okk k w
 lst:Lst w
def Nn (k:Nat)(w:W)(m:Nat):Prop:=∀ v,LW k w.length v->∀ p,m<=p->p<w.length->v.take p=w.take p->¬ w.getD p 0<v.getD p 0
theorem qM:∀ (a b:List W),a.Nodup->(∀ x∈a,x∈b)->a.length<=b.length
 | [],b,_,_=>Nat.zero_le _
 | x::a,b,hn,hs=>by
  obtain ⟨h1,h2⟩:=List.nodup_cons.mp hn;have hx:x∈b:=hs x List.mem_cons_self
  have:=qM a (b.erase x) h2 fun y hy=>(List.mem_erase_of_ne (fun e=>h1 (by rw [<- e];exact hy))).mpr (hs y (List.mem_cons_of_mem _ hy))
  rw [List.length_erase_of_mem hx] at this;have hp:0<b.length:=List.length_pos_of_mem hx;rw [List.length_cons];omega
section
variable {k n:Nat}{t:W}
theorem full {a b:List W}(hn:a.Nodup)(hs:∀ x∈a,x∈b)(hl:b.length<=a.length){x:W}(hx:x∈b):x∈a:=by
 refine Classical.byContradiction fun hno=>?_
 have:=qM (x::a) b (List.nodup_cons.mpr ⟨hno,hn⟩) fun y hy=>by
  rcases List.mem_cons.mp hy with rfl | hy
  ·exact hx
  ·exact hs y hy
 rw [List.length_cons] at this;omega
end
open Hg
def lst (us:List W):W:=us.getD (us.length-1) []
def ext (ws us:List W):List (List W):=(ws.filter fun w=>decide (beg w=fin (lst us)) && !decide (w∈us)).map fun w=>us++[w]
section
variable {ws us:List W}{w0 w:W}{n k:Nat}
end
section
variable {E L us:List W}{s t v p q w:W}
end
end Wd
namespace Dt
open Wd Hg
section
variable {ts:List W}{f:W->W}
theorem Fo {t:W}(h:t∉ts):∀ k,iT ts f k t=t
 | 0=>rfl
 | k+1=>by
  show sT ts f (iT ts f k t)=t;rw [Fo h k];unfold sT;rw [if_neg h]
end
def og (E:List W)(t:W):List W:=E.filter fun w=>decide (beg w=t)
def rm (E:List W)(w:W):List W:=E.filter fun x=>!decide (x=w)
section
variable {E:List W}{a b t w:W}
end
def Pb:Nat->List W->W->W->List (List W)
 | 0,_,a,b=>if a=b then [[]] else []
 | n+1,E,a,b=>(og E a).flatMap fun w=>(Pb n (rm E w) (fin w) b).map fun us=>w::us
def eN (E:List W)(a b:W):Nat:=(Pb E.length E a b).length
def nW (ts:List W)(a:W)(g:W->List W)(w:W):Nat:=((chs g ts).filter fun f=>cmT (a::ts) (fN f a w)).length
theorem Af {ts:List W}{a:W}{g:W->List W}:nC (a::ts) g=((g a).map (nW ts a g)).sum:=by
 show (((chs g ts).flatMap fun f=>(g a).map fun w=>fN f a w).filter (cmT (a::ts))).length=((g a).map fun w=>((chs g ts).filter fun f=>cmT (a::ts) (fN f a w)).length).sum;generalize chs g ts=l
 induction l with
 | nil =>
  show 0=((g a).map fun w=>0).sum;generalize g a=l
  induction l with
  | nil=>rfl
  | cons w l ih=>rw [List.map_cons,List.sum_cons,<- ih]
 | cons f l ih =>
  rw [List.flatMap_cons,List.filter_append,List.length_append,ih];clear ih;generalize g a=m
  induction m with
  | nil=>rfl
  | cons w m ih =>
   rw [List.map_cons,List.map_cons,List.map_cons,List.sum_cons,List.sum_cons,List.filter_cons,List.filter_cons];by_cases hc:cmT (a::ts) (fN f a w)=true
   ·rw [if_pos hc,if_pos hc,List.length_cons,List.length_cons];omega
   ·rw [if_neg hc,if_neg hc];omega
theorem Eh {ts:List W}{a w:W}{g g':W->List W}(h:∀ t∈ts,g t=g' t):nW ts a g w=nW ts a g' w:=by unfold nW;rw [tD h]
end Dt
namespace Wd
def it (f:W->W):Nat->W->W
 | 0,w=>w
 | k+1,w=>f (it f k w)
section
variable {f:W->W}{L:List W}{w:W}{p:Nat}
end
section
variable {f:W->W}{r:W}{n:Nat}{L:List W}
end
open Hg
section
variable {ms us xs ys:List W}{p q r t e w0:W}{n:Nat}
end
section
variable {ms us vs:List W}{p q m0 t:W}{n:Nat}
end
end Wd
namespace Dt
open Wd Hg
theorem zS {α β:Type}{f:α->List β}{x:α}{l:List α}{k:Nat}:((x::l).flatMap f)[k]?=if k<(f x).length then (f x)[k]? else (l.flatMap f)[k-(f x).length]?:=by
 rw [List.flatMap_cons,List.getElem?_append]
theorem zZ {α β:Type}{f:α->List β}{l:List α}{k:Nat}:∀ pre:List α,((pre++l).flatMap f)[(pre.map fun x=>(f x).length).sum+k]?=(l.flatMap f)[k]?
 | []=>by rw [List.nil_append,List.map_nil];show (l.flatMap f)[0+k]?=_;rw [Nat.zero_add]
 | x::pre=>by
  rw [List.cons_append,zS,List.map_cons,List.sum_cons,if_neg (by omega),show (f x).length+(pre.map fun x=>(f x).length).sum+k-(f x).length=(pre.map fun x=>(f x).length).sum+k by omega];exact zZ pre
def rk (b:W):List W->List W->Nat
 | _,[]=>0
 | E,w::us=>(((og E (beg w)).filter fun x=>decide (x<w)).map fun x=>eN (rm E x) (fin x) b).sum+rk b (rm E w) us
theorem sH {w:W}:∀ {l:List W},l.Pairwise (· < ·)->w∈l->∃ post,l=(l.filter fun x=>decide (x<w))++w::post
 | x::l,h,hw=>by
  rw [List.pairwise_cons] at h;by_cases e:x=w
  ·subst e
   refine ⟨l,?_⟩;rw [List.filter_cons_of_neg (by simp [List.lt_irrefl]),List.filter_eq_nil_iff.mpr fun y hy z=>List.lt_asymm (h.1 y hy) (of_decide_eq_true z)];rfl
  ·have hwl:=(List.mem_cons.mp hw).resolve_left (Ne.symm e)
   obtain ⟨post,hp⟩:=sH h.2 hwl;refine ⟨post,?_⟩;rw [List.filter_cons_of_pos (by exact decide_eq_true (h.1 w hwl)),List.cons_append,<- hp]
theorem Ht {E:List W}(hn:E.Nodup)(hs:E.Pairwise fun x y=>¬ y<x):E.Pairwise (· < ·):=by
 refine List.Pairwise.imp₂ (fun a b h1 h2=>?_) hs hn;exact Classical.byContradiction fun z=>h2 (Std.Trichotomous.trichotomous a b z h1)
section
variable {m0:W}{us vs ms:List W}{n:Nat}
end
theorem Mv {ts:List W}{t:W}{g:W->List W}(hn:ts.Nodup)(ht:t∈ts):((g t).map fun w=>nC ts (fun x=>if x=t then [w] else g x)).sum=nC ts g:=by
 have hp:=List.perm_cons_erase ht;have hn':=hp.nodup_iff.mp hn;have hnt:t∉ts.erase t:=(List.nodup_cons.mp hn').1;rw [vP hp hn,Af]
 congr 1
 refine List.map_congr_left fun w _=>?_
 rw [vP hp hn,Af];show (List.map (nW (ts.erase t) t _) (if t=t then [w] else g t)).sum=_;rw [if_pos rfl];show nW (ts.erase t) t _ w+0=_;rw [Nat.add_zero];exact Eh fun x hx=>by
  have hne:x≠t:=fun z=>hnt (z▸hx)
  rw [if_neg hne]
def eD (g:W->List W)(t w:W):W->List W:=fun x=>if x=t then [w] else g x
theorem iG {g:W->List W}{t w:W}:eD g t w t=[w]:=if_pos rfl
theorem eG {g:W->List W}{t w x:W}(h:x≠t):eD g t w x=g x:=if_neg h
def trs (ts:List W):List W->(W->List W)->List (List W)
 | [],g=>if cmT ts (fun t=>(g t).headD [])=true then [[]] else []
 | t::r,g=>(g t).flatMap fun w=>(trs ts r (eD g t w)).map fun us=>w::us
def Fix (ts r:List W)(g:W->List W):Prop:=∀ t∈ts,t∉r->∃ w,g t=[w]
theorem Fix.set {ts r:List W}{g:W->List W}{t w:W}(h:Fix ts (t::r) g):Fix ts r (eD g t w):=fun x hx hr=>by
 by_cases e:x=t
 ·exact ⟨w,by rw [e,iG]⟩
 ·rw [eG e]
  exact h x hx fun z=>(List.mem_cons.mp z).elim e hr
theorem Ay {g:W->List W}:∀ {ls:List W},(∀ t∈ls,∃ w,g t=[w])->∃ f,chs g ls=[f]∧∀ t∈ls,f t=(g t).headD []
 | [],_=>⟨_,rfl,fun t h=>(by cases h)⟩
 | t::ls,h=>by
  obtain ⟨f,h1,h2⟩:=Ay (ls:=ls) fun x hx=>h x (List.mem_cons_of_mem _ hx)
  obtain ⟨w,hw⟩:=h t (List.mem_cons_self ..);refine ⟨fN f t w,?_,fun x hx=>?_⟩
  ·show ((chs g ls).flatMap fun f=>(g t).map fun w=>fN f t w)=_
   rw [h1,hw];rfl
  ·by_cases e:x=t
   ·rw [e,sZ,hw]
    rfl
   ·rw [Au e]
    exact h2 x ((List.mem_cons.mp hx).resolve_left e)
theorem wN {ls:List W}{f f':W->W}(h:∀ t∈ls,f t=f' t){t:W}:∀ k,iT ls f k t=iT ls f' k t
 | 0=>rfl
 | k+1=>by
  show sT ls f (iT ls f k t)=sT ls f' (iT ls f' k t);rw [wN h k];unfold sT;split
  ·rename_i hm
   rw [h _ hm]
  ·rfl
theorem kC {ls:List W}{f f':W->W}(h:∀ t∈ls,f t=f' t):cmT ls f=cmT ls f':=by
 unfold cmT
 congr 1
 funext t
 rw [wN h]
theorem lP {ts:List W}(hn:ts.Nodup):∀ {r:List W} {g:W->List W},(∀ t∈r,t∈ts)->Fix ts r g->(trs ts r g).length=nC ts g
 | [],g,_,hf=>by
  obtain ⟨f,h1,h2⟩:=Ay (g:=g) (ls:=ts) fun t ht=>hf t ht (by simp)
  unfold nC;rw [h1];show (if cmT ts (fun t=>(g t).headD [])=true then [[]] else ([]:List (List W))).length=_;rw [<- kC h2];by_cases e:cmT ts f=true
  ·rw [if_pos e,List.filter_cons_of_pos e]
   rfl
  ·rw [if_neg e,List.filter_cons_of_neg e]
   rfl
 | t::r,g,hr,hf=>by
  show ((g t).flatMap fun w=>(trs ts r (eD g t w)).map fun us=>w::us).length=_;rw [List.length_flatMap,<- Mv hn (hr t (List.mem_cons_self ..))]
  congr 1
  refine List.map_congr_left fun w _=>?_
  rw [List.length_map,lP hn (fun x hx=>hr x (List.mem_cons_of_mem _ hx)) hf.set];rfl
def rkT (ts:List W):List W->(W->List W)->List W->Nat
 | t::r,g,w::us=>(((g t).filter fun x=>decide (x<w)).map fun x=>nC ts (eD g t x)).sum+rkT ts r (eD g t w) us
 | _,_,_=>0
theorem Av {ts:List W}(hn:ts.Nodup):∀ {r:List W} {g:W->List W} {us:List W},(∀ t∈r,t∈ts)->r.Nodup->Fix ts r g->(∀ t∈r,(g t).Pairwise (· < ·))->us∈trs ts r g->(trs ts r g)[rkT ts r g us]?=some us
 | [],g,us,_,_,_,_,h=>by
  have h:us∈(if cmT ts (fun t=>(g t).headD [])=true then [[]] else ([]:List (List W))):=h;show (if cmT ts (fun t=>(g t).headD [])=true then [[]] else ([]:List (List W)))[0]?=_;by_cases e:cmT ts (fun t=>(g t).headD [])=true
  ·rw [if_pos e] at h ⊢
   rw [List.mem_singleton.mp h];rfl
  ·rw [if_neg e] at h
   cases h
 | t::r,g,us,hr,hrn,hf,ha,h=>by
  obtain ⟨hr1,hr2⟩:=List.nodup_cons.mp hrn;have h:us∈((g t).flatMap fun w=>(trs ts r (eD g t w)).map fun us=>w::us):=h;obtain ⟨w,hw,h⟩:=List.mem_flatMap.mp h;obtain ⟨vs,hv,rfl⟩:=List.mem_map.mp h;have hr':∀ x∈r,x∈ts:=fun x hx=>hr x (List.mem_cons_of_mem _ hx)
  have ih:=Av hn (us:=vs) hr' hr2 (hf.set (w:=w)) (fun x hx=>by rw [eG (fun e:x=t=>hr1 (e▸hx))];exact ha x (List.mem_cons_of_mem _ hx)) hv;obtain ⟨post,hp⟩:=sH (ha t (List.mem_cons_self ..)) hw;show ((g t).flatMap fun w=>(trs ts r (eD g t w)).map fun us=>w::us)[(((g t).filter fun x=>decide (x<w)).map fun x=>nC ts (eD g t x)).sum+rkT ts r (eD g t w) vs]?=_;have e:(((g t).filter fun x=>decide (x<w)).map fun x=>nC ts (eD g t x)).sum=(((g t).filter fun x=>decide (x<w)).map fun w=>((trs ts r (eD g t w)).map fun us=>w::us).length).sum:=by
   congr 1
   refine List.map_congr_left fun x _=>?_
   rw [List.length_map,lP hn hr' hf.set]
  rw [e]
  conv=>lhs;arg 1;arg 2;rw [hp]
  rw [zZ,zS,if_pos,List.getElem?_map,ih]
  ·rfl
  ·rw [List.length_map]
   exact (List.getElem?_eq_some_iff.mp ih).1
theorem yD {ts:List W}:∀ {r:List W} {g:W->List W},r.Nodup->(∀ t∈r,(g t).Pairwise (· < ·))->(trs ts r g).Pairwise (· < ·)
 | [],g,_,_=>by
  show (if cmT ts (fun t=>(g t).headD [])=true then [[]] else ([]:List (List W))).Pairwise _;split
  ·exact List.pairwise_singleton ..
  ·exact List.Pairwise.nil
 | t::r,g,hn,ha=>by
  obtain ⟨h1,h2⟩:=List.nodup_cons.mp hn;have key:∀ l:List W,l.Pairwise (· < ·)->(l.flatMap fun w=>(trs ts r (eD g t w)).map fun us=>w::us).Pairwise (· < ·):=fun l=>by
   induction l with
   | nil=>intro _;exact List.Pairwise.nil
   | cons w l ih =>
    intro hl;obtain ⟨k1,k2⟩:=List.pairwise_cons.mp hl;rw [List.flatMap_cons,List.pairwise_append];refine ⟨?_,ih k2,?_⟩
    ·rw [List.pairwise_map]
     refine (yD h2 fun x hx=>?_).imp fun h=>List.Lex.cons h
     rw [eG (fun e:x=t=>h1 (e▸hx))];exact ha x (List.mem_cons_of_mem _ hx)
    ·intro a hA b hB
     obtain ⟨us,_,rfl⟩:=List.mem_map.mp hA;obtain ⟨v,hv,hB⟩:=List.mem_flatMap.mp hB;obtain ⟨vs,_,rfl⟩:=List.mem_map.mp hB;exact List.Lex.rel (k1 v hv)
  exact key _ (ha t (List.mem_cons_self ..))
theorem Gh {ts r:List W}{g:W->List W}(hn:r.Nodup)(ha:∀ t∈r,(g t).Pairwise (· < ·)){i j:Nat}{us:List W}(hi:(trs ts r g)[i]?=some us)(hj:(trs ts r g)[j]?=some us):i=j:=by
 have key:∀ {i j:Nat},(trs ts r g)[i]?=some us->(trs ts r g)[j]?=some us->¬ i<j:=fun {i j} hi hj hlt=>by
  obtain ⟨h1,e1⟩:=List.getElem?_eq_some_iff.mp hi;obtain ⟨h2,e2⟩:=List.getElem?_eq_some_iff.mp hj
  have:=List.pairwise_iff_getElem.mp (yD (ts:=ts) hn ha) i j h1 h2 hlt
  rw [e1,e2] at this;exact List.lt_irrefl _ this
 have:=key hi hj
 have:=key hj hi
 omega
def pk:List W->W->W
 | [],_=>[]
 | w::us,t=>if beg w=t then w else pk us t
theorem Kc {w:W}{us:List W}:pk (w::us) (beg w)=w:=if_pos rfl
theorem Aq {ts:List W}:∀ {r:List W} {g:W->List W} {us:List W},r.Nodup->(∀ t∈r,∀ w∈g t,beg w=t)->(us∈trs ts r g↔us.map beg=r∧(∀ w∈us,w∈g (beg w))∧cmT ts (fun t=>if t∈r then pk us t else (g t).headD [])=true)
 | [],g,us,_,_=>by
  show us∈(if cmT ts (fun t=>(g t).headD [])=true then [[]] else ([]:List (List W)))↔_;have e:cmT ts (fun t=>if t∈([]:List W) then pk us t else (g t).headD [])=cmT ts (fun t=>(g t).headD []):=kC fun t _=>if_neg (by simp)
  rw [e];constructor
  ·intro h
   by_cases z:cmT ts (fun t=>(g t).headD [])=true
   ·rw [if_pos z] at h
    rw [List.mem_singleton.mp h];exact ⟨rfl,fun w hw=>(by cases hw),z⟩
   ·rw [if_neg z] at h
    cases h
  ·rintro ⟨h1,_,h3⟩
   rw [if_pos h3,List.map_eq_nil_iff.mp h1];exact List.mem_singleton.mpr rfl
 | t::r,g,us,hn,hb=>by
  obtain ⟨hn1,hn2⟩:=List.nodup_cons.mp hn;have hne:∀ x∈r,x≠t:=fun x hx e=>hn1 (e▸hx)
  have ih:=fun (w:W) (vs:List W)=>Aq (ts:=ts) (r:=r) (g:=eD g t w) (us:=vs) hn2 fun x hx v hv=>hb x (List.mem_cons_of_mem _ hx) v (by rw [eG (hne x hx)] at hv;exact hv)
  have ec:∀ (w:W) (vs:List W),beg w=t->cmT ts (fun x=>if x∈r then pk vs x else (eD g t w x).headD [])=cmT ts (fun x=>if x∈t::r then pk (w::vs) x else (g x).headD []):=fun w vs hw=>kC fun x _=>by
   by_cases hx:x=t
   ·rw [hx,if_neg hn1,if_pos (List.mem_cons_self ..),iG,<- hw,Kc]
    rfl
   ·by_cases hr:x∈r
    ·rw [if_pos hr,if_pos (List.mem_cons_of_mem _ hr)]
     show _=if beg w=x then w else pk vs x
     rw [if_neg fun z=>hx (z.symm.trans hw)]
    ·rw [if_neg hr,if_neg fun z=>(List.mem_cons.mp z).elim hx hr,eG hx]
  show us∈((g t).flatMap fun w=>(trs ts r (eD g t w)).map fun us=>w::us)↔_;rw [List.mem_flatMap];constructor
  ·rintro ⟨w,hw,h⟩
   obtain ⟨vs,hv,rfl⟩:=List.mem_map.mp h;obtain ⟨h1,h2,h3⟩:=(ih w vs).mp hv;have hwt:=hb t (List.mem_cons_self ..) w hw;rw [ec w vs hwt] at h3;refine ⟨by rw [List.map_cons,h1,hwt],fun v hv=>?_,h3⟩;rcases List.mem_cons.mp hv with z | z
   ·rw [z,hwt];exact hw
   ·have:=h2 v z
    rw [eG (hne _ (by rw [<- h1];exact List.mem_map_of_mem z))] at this;exact this
  ·rintro ⟨h1,h2,h3⟩
   cases us with
   | nil=>cases h1
   | cons w vs =>
    obtain ⟨hwt,h1⟩:=List.cons.inj h1;refine ⟨w,by have:=h2 w (List.mem_cons_self ..);rw [hwt] at this;exact this,List.mem_map_of_mem ((ih w vs).mpr ⟨h1,fun v hv=>?_,?_⟩)⟩
    ·rw [eG (hne _ (by rw [<- h1];exact List.mem_map_of_mem hv))]
     exact h2 v (List.mem_cons_of_mem _ hv)
    ·rw [ec w vs hwt]
     exact h3
theorem vO:∀ {us:List W},(us.map beg).Nodup->∀ w∈us,pk us (beg w)=w
 | [],_,w,h=>by cases h
 | v::us,hn,w,h=>by
  obtain ⟨h1,h2⟩:=List.nodup_cons.mp hn;show (if beg v=beg w then v else pk us (beg w))=w;rcases List.mem_cons.mp h with z | z
  ·rw [z,if_pos rfl]
  ·rw [if_neg (fun e:beg v=beg w=>h1 (e▸List.mem_map_of_mem z)),vO h2 w z]
theorem jQ {ls:List W}{f:W->W}{t:W}:∀ k,iT ls f (k+1) t=iT ls f k (sT ls f t)
 | 0=>rfl
 | k+1=>by
  show sT ls f (iT ls f (k+1) t)=sT ls f (iT ls f k (sT ls f t));rw [jQ k]
theorem lS {ls:List W}{f:W->W}{t:W}{k:Nat}(h:iT ls f k t∉ls):∀ j,iT ls f (k+j) t∉ls
 | 0=>h
 | j+1=>by
  show sT ls f (iT ls f (k+j) t)∉ls;rw [show sT ls f (iT ls f (k+j) t)=iT ls f (k+j) t from if_neg (lS h j)];exact lS h j
theorem zY {ls:List W}{f:W->W}:∀ m,(∀ t,iT ls f (m+1) t∉ls->iT ls f m t∉ls)->∀ k t,iT ls f (m+k) t∉ls->iT ls f m t∉ls
 | m,h,0,t,hk=>hk
 | m,h,k+1,t,hk=>by
  have h':∀ j t,iT ls f (m+j+1) t∉ls->iT ls f (m+j) t∉ls:=fun j=>by
   induction j with
   | zero=>exact h
   | succ j ih =>
    intro t ht;rw [show m+(j+1)=(m+j)+1 by omega,jQ];rw [jQ] at ht;exact ih _ ht
  exact zY m h k t (h' k t hk)
def Jq (ls:List W)(f:W->W)(m:Nat):Nat:=(ls.filter fun t=>decide (iT ls f m t∉ls)).length
theorem Gp {ls:List W}{f:W->W}(h:∀ t∈ls,∃ m,iT ls f m t∉ls):∀ t∈ls,iT ls f ls.length t∉ls:=by
 have key:∀ m,m<=Jq ls f m∨∃ j,j<=m∧∀ t,iT ls f (j+1) t∉ls->iT ls f j t∉ls:=fun m=>by
  induction m with
  | zero=>exact .inl (Nat.zero_le _)
  | succ m ih =>
   rcases ih with ih | ⟨j,hj,h1⟩
   ·by_cases hz:∀ t,iT ls f (m+1) t∉ls->iT ls f m t∉ls
    ·exact .inr ⟨m,by omega,hz⟩
    ·left
     obtain ⟨t0,h0⟩:=Classical.not_forall.mp hz;obtain ⟨h1,h2⟩:=Classical.not_imp.mp h0;have h2:iT ls f m t0∈ls:=Classical.not_not.mp h2;have ht0:t0∈ls:=Classical.byContradiction fun z=>by
      rw [Fo z] at h2;exact z h2
     have hlt:Jq ls f m<Jq ls f (m+1):=by
      unfold Jq;have gen:∀ l:List W,(l.filter fun t=>decide (iT ls f m t∉ls)).length<=(l.filter fun t=>decide (iT ls f (m+1) t∉ls)).length∧(t0∈l->(l.filter fun t=>decide (iT ls f m t∉ls)).length<(l.filter fun t=>decide (iT ls f (m+1) t∉ls)).length):=fun l=>by
       induction l with
       | nil=>exact ⟨Nat.le_refl _,fun z=>(by cases z)⟩
       | cons x l ih =>
        rw [List.filter_cons,List.filter_cons];by_cases e1:iT ls f m x∉ls
        ·have e2:=lS e1 1
         rw [if_pos (decide_eq_true e1),if_pos (decide_eq_true e2),List.length_cons,List.length_cons];refine ⟨Nat.succ_le_succ ih.1,fun hz=>Nat.succ_lt_succ (ih.2 ?_)⟩;rcases List.mem_cons.mp hz with z | z
         ·exact absurd (z▸h2) e1
         ·exact z
        ·rw [if_neg fun z=>e1 (of_decide_eq_true z)]
         by_cases e2:iT ls f (m+1) x∉ls
         ·rw [if_pos (decide_eq_true e2),List.length_cons]
          exact ⟨Nat.le_succ_of_le ih.1,fun _=>Nat.lt_succ_of_le ih.1⟩
         ·rw [if_neg fun z=>e2 (of_decide_eq_true z)]
          refine ⟨ih.1,fun hz=>ih.2 ?_⟩;rcases List.mem_cons.mp hz with z | z
          ·exact absurd (z▸h1) e2
          ·exact z
      exact (gen ls).2 ht0
     omega
   ·exact .inr ⟨j,by omega,h1⟩
 intro t ht;rcases key ls.length with h1 | ⟨j,hj,h1⟩
 ·have h2:(ls.filter fun t=>decide (iT ls f ls.length t∉ls))=ls:=List.filter_eq_self.mpr (List.length_filter_eq_length_iff.mp (Nat.le_antisymm (List.length_filter_le ..) h1))
  exact of_decide_eq_true (List.filter_eq_self.mp h2 t ht)
 ·obtain ⟨m,hm⟩:=h t ht
  have h3:iT ls f j t∉ls:=by
   by_cases e:m<=j
   ·have:=lS hm (j-m)
    rw [show m+(j-m)=j by omega] at this;exact this
   ·refine zY j h1 (m-j) t ?_
    rw [show j+(m-j)=m by omega];exact hm
  have:=lS h3 (ls.length-j)
  rw [show j+(ls.length-j)=ls.length by omega] at this;exact this
theorem oN {a b:List W}(hn:a.Nodup)(h:∀ x∈a,x∈b):a.length<=b.length:=qM a b hn h
theorem Ej {ts us ks:List W}{p:W}(hts:ts.Nodup)(hp:p∉ts)(hb:us.map beg=ts)(he:∀ w∈us,fin w=p∨fin w∈ts)(hk:ks.Nodup)(hpk:p∈ks)(hc:∀ w∈us,fin w∈ks->beg w∈ks)(hm:∀ χ:W->Prop,χ p->(∀ w∈us,χ (fin w)->χ (beg w))->∀ k∈ks,χ k) :
  ks.length=ts.length+1↔cmT ts (pk us)=true:=by
 have hbn:(us.map beg).Nodup:=by rw [hb];exact hts
 have hin:∀ w∈us,beg w∈ts:=fun w hw=>by rw [<- hb];exact List.mem_map_of_mem hw
 have hof:∀ t∈ts,∃ w∈us,beg w=t:=fun t ht=>by rw [<- hb] at ht;exact List.mem_map.mp ht
 have hst:∀ w∈us,sT ts (pk us) (beg w)=fin w:=fun w hw=>by
  unfold sT;rw [if_pos (hin w hw),vO hbn w hw];rfl
 have hsub:∀ k∈ks,k∈p::ts:=hm (fun k=>k∈p::ts) (List.mem_cons_self ..) fun w hw _=>List.mem_cons_of_mem _ (hin w hw)
 have hcm:cmT ts (pk us)=true↔∀ t∈ts,iT ts (pk us) ts.length t∉ts:=by
  unfold cmT;rw [List.all_eq_true];exact ⟨fun h t ht=>of_decide_eq_true (h t ht),fun h t ht=>decide_eq_true (h t ht)⟩
 rw [hcm];constructor
 ·intro hl
  have hall:∀ t∈ts,t∈ks:=fun t ht=>Wd.full hk hsub (by rw [List.length_cons];omega) (List.mem_cons_of_mem _ ht)
  have h1:=hm (fun k=>∃ m,iT ts (pk us) m k∉ts) ⟨0,hp⟩ fun w hw ⟨m,h⟩=>⟨m+1,by rw [jQ,hst w hw];exact h⟩
  exact Gp fun t ht=>h1 t (hall t ht)
 ·intro h
  have hto:∀ m t,(t=p∨t∈ts)->iT ts (pk us) m t∉ts->t∈ks:=fun m=>by
   induction m with
   | zero =>
    intro t ht hn;rcases ht with z | z
    ·rw [z];exact hpk
    ·exact absurd z hn
   | succ m ih =>
    intro t ht hn;rcases ht with z | z
    ·rw [z];exact hpk
    ·obtain ⟨w,hw,rfl⟩:=hof t z
     rw [jQ,hst w hw] at hn;exact hc w hw (ih _ (he w hw) hn)
  have h1:(p::ts).length<=ks.length:=oN (List.nodup_cons.mpr ⟨hp,hts⟩) fun x hx=>by
   rcases List.mem_cons.mp hx with z | z
   ·rw [z];exact hpk
   ·exact hto _ x (.inr z) (h x z)
  have h2:=oN hk hsub;rw [List.length_cons] at h1 h2;omega
section
variable {ms us ps:List W}{p q x m0:W}{n k:Nat}
end
theorem zX {f g:W->Nat}:∀ {l:List W},(l.map fun x=>f x+g x).sum=(l.map f).sum+(l.map g).sum
 | []=>rfl
 | x::l=>by
  rw [List.map_cons,List.map_cons,List.map_cons,List.sum_cons,List.sum_cons,List.sum_cons,zX (l:=l)];omega
theorem kR:∀ {l:List W},(l.map fun _=>0).sum=0
 | []=>rfl
 | x::l=>by rw [List.map_cons,List.sum_cons,kR]
theorem Fn {a:W}:∀ {ps:List W},ps.Nodup->(ps.map fun b=>(if a=b then [[]] else ([]:List (List W))).length).sum<=1
 | [],_=>Nat.zero_le _
 | b::ps,h=>by
  obtain ⟨h1,h2⟩:=List.nodup_cons.mp h;rw [List.map_cons,List.sum_cons];by_cases e:a=b
  ·have h3:(ps.map fun b=>(if a=b then [[]] else ([]:List (List W))).length).sum=(ps.map fun _=>0).sum:=by
    congr 1
    refine List.map_congr_left fun y hy=>?_
    rw [if_neg (fun z:a=y=>h1 (by rw [<- e,z];exact hy))];rfl
   rw [if_pos e,h3,kR];exact Nat.le_refl _
  ·rw [if_neg e]
   have:=Fn (a:=a) h2
   show 0+_<=1;omega
theorem Mb {E:List W}:∀ {ps:List W},ps.Nodup->(ps.map fun a=>(og E a).length).sum<=E.length:=by
 induction E with
 | nil =>
  intro ps _;show (ps.map fun _=>0).sum<=0;rw [kR];exact Nat.le_refl _
 | cons x E ih =>
  intro ps hps;have e:∀ a,(og (x::E) a).length=(if beg x=a then [[]] else ([]:List (List W))).length+(og E a).length:=fun a=>by
   unfold og;by_cases h:beg x=a
   ·rw [List.filter_cons_of_pos (p:=fun w=>decide (beg w=a)) (decide_eq_true h),if_pos h,List.length_cons]
    exact Nat.add_comm _ _
   ·rw [List.filter_cons_of_neg (p:=fun w=>decide (beg w=a)) (fun z=>h (of_decide_eq_true z)),if_neg h]
    exact (Nat.zero_add _).symm
  rw [List.map_congr_left fun a _=>e a,zX,List.length_cons]
  have:=Fn (a:=beg x) hps
  have:=ih hps
  omega
end Dt
namespace L2
open PySem PySem.Spec PyProof.Rows
def tx (l:List Nat):Str:=⟨l.toArray⟩
abbrev T (l:List Nat):V:=.str (tx l)
theorem gG (l:List Nat):(tx l).length=l.length:=by simp [tx,Str.length]
theorem dH (l:List Nat):(tx l).cps.toList=l:=by simp [tx]
theorem iN (x:Str):tx x.cps.toList=x:=by cases x;simp [tx]
theorem fG {a b:List Nat}(h:tx a=tx b):a=b:=by
 have e:=congrArg (fun x:Str=>x.cps.toList) h
 simpa [tx] using e
theorem Os {a b:List Nat}(h:T a=T b):a=b:=fG (V.str.inj h)
theorem Ku {a b:List Nat}:decide (T a=T b)=decide (a=b):=by
 rw [Bool.eq_iff_iff,decide_eq_true_iff,decide_eq_true_iff];exact ⟨Os,fun h=>by rw [h]⟩
theorem Mp (a b:List Nat):tx a++tx b=tx (a++b):=by
 rw [<- iN (tx a++tx b),PySem.W.KT.app_list,dH,dH]
section
variable {X:Cx}
theorem jR:OpR X (binaryOp .Add) (fun x y H Q=>∃ a,x=T a∧∃ b,y=T b∧a.length+b.length<=sizeLine∧Q (T (a++b)) H):=by
 intro pins s σ H x y v u Q I rx ry h;obtain ⟨a,e1,b,e2,hz,q⟩:=h;exact yT pins s σ H x y v u Q I rx ry ⟨tx a,tx b,e1,e2,by rw [gG,gG];exact hz,by rw [Mp];exact q⟩
theorem Js:OpR X (compareOp .Lt) (fun x y H Q=>∃ a,x=T a∧∃ b,y=T b∧Q (.bl (decide (a<b))) H):=by
 intro pins s σ H x y v u Q I rx ry h;obtain ⟨a,e1,b,e2,q⟩:=h;exact Cq pins s σ H x y v u Q I rx ry ⟨tx a,tx b,e1,e2,by rw [dH,dH];exact q⟩
theorem Ak:OpR X (compareOp .Eq) (fun x y H Q=>∃ a,x=T a∧∃ b,y=T b∧Q (.bl (decide (a=b))) H):=by
 intro pins s σ H x y v u Q I rx ry h;obtain ⟨a,rfl,b,rfl,q⟩:=h;exact Ks pins s σ H _ _ v u Q I rx ry ⟨rfl,by rw [Ku];exact q⟩
theorem oM:OpR X (compareOp .NotEq) (fun x y H Q=>∃ a,x=T a∧∃ b,y=T b∧Q (.bl (!decide (a=b))) H):=by
 intro pins s σ H x y v u Q I rx ry h;obtain ⟨a,rfl,b,rfl,q⟩:=h;exact Kw pins s σ H _ _ v u Q I rx ry ⟨rfl,by rw [Ku];exact q⟩
theorem eK:OpR X (compareOp .Eq) (fun x y H Q=>∃ a,x = .int a∧∃ b,y = .int b∧Q (.bl (decide (a=b))) H):=by
 intro pins s σ H x y v u Q I rx ry h;obtain ⟨a,rfl,b,rfl,q⟩:=h;exact Ks pins s σ H _ _ v u Q I rx ry ⟨rfl,by rw [oP,Bool.beq_eq_decide_eq];exact q⟩
theorem oR:OpR X (compareOp .NotEq) (fun x y H Q=>∃ a,x = .int a∧∃ b,y = .int b∧Q (.bl (!decide (a=b))) H):=by
 intro pins s σ H x y v u Q I rx ry h;obtain ⟨a,rfl,b,rfl,q⟩:=h;exact Kw pins s σ H _ _ v u Q I rx ry ⟨rfl,by rw [oP,Bool.beq_eq_decide_eq];exact q⟩
def gB (l:List Nat)(lo hi:Option Int):List Nat:=(l.drop (HT.sIx l.length 0 lo)).take (HT.sIx l.length l.length hi-HT.sIx l.length 0 lo)
theorem lI (v:Option Int)(n d:Nat):(match v with | none=>(d:Int) | some i=>max 0 (min (if i<0 then i+(n:Int) else i) (n:Int)))=((HT.sIx n d v:Nat):Int):=by
 cases v with
 | none=>rfl
 | some i =>
  show max 0 (min (if i<0 then i+(n:Int) else i) (n:Int))=(((if i<0 then (i+(n:Int)).toNat else min i.toNat n):Nat):Int);by_cases hi:i<0
  ·simp only [if_pos hi];omega
  ·simp only [if_neg hi];omega
theorem wA (lo hi:Option Int)(n:Nat):Builtin.Str.strSliceIndices lo hi 1 n=Builtin.Str.strSliceIndices (some ((HT.sIx n 0 lo:Nat):Int)) (some ((HT.sIx n n hi:Nat):Int)) 1 n:=by
 have h1:=HT.uJ n 0 (Nat.zero_le _) lo;have h2:=HT.uJ n n (Nat.le_refl _) hi;have c1:=lI lo n 0;have c2:=lI hi n n;have d1:=lI (some ((HT.sIx n 0 lo:Nat):Int)) n 0;have d2:=lI (some ((HT.sIx n n hi:Nat):Int)) n n;rw [HT.fD,Nat.min_eq_left h1] at d1;rw [HT.fD,Nat.min_eq_left h2] at d2;unfold Builtin.Str.strSliceIndices;simp only [show ((1:Int)>0) from by decide,if_true];have g:∀ a b c d:Int,a=c->b=d->sliceRange a b 1=sliceRange c d 1:=fun a b c d h1 h2=>by rw [h1,h2]
 exact g _ _ _ _ (c1.trans d1.symm) (c2.trans d2.symm)
theorem Gz (l:List Nat)(lo hi:Option Int):Txt.slice (tx l) lo hi=tx (gB l lo hi):=by
 have h1:=HT.uJ l.length 0 (Nat.zero_le _) lo;have h2:=HT.uJ l.length l.length (Nat.le_refl _) hi;unfold Txt.slice;rw [gG,wA];by_cases hab:HT.sIx l.length 0 lo<=HT.sIx l.length l.length hi
 ·have e:=StrLaws.sliceText_nat (tx l) hab (by rw [gG];exact h2)
  unfold StrLaws.sliceText at e;rw [gG,dH] at e;exact e
 ·have e0:Builtin.Str.strSliceIndices (some ((HT.sIx l.length 0 lo:Nat):Int)) (some ((HT.sIx l.length l.length hi:Nat):Int)) 1 l.length=[]:=by
   unfold Builtin.Str.strSliceIndices sliceRange;have n1:¬ (((HT.sIx l.length 0 lo:Nat):Int)<0):=by omega
   have n2:¬ (((HT.sIx l.length l.length hi:Nat):Int)<0):=by omega
   simp only [show ((1:Int)>0) from by decide,if_true,if_neg n1,if_neg n2];have n3:¬ (max (0:Int) (min ((HT.sIx l.length 0 lo:Nat):Int) (l.length:Int))<max (0:Int) (min ((HT.sIx l.length l.length hi:Nat):Int) (l.length:Int))):=by omega
   simp [n3]
  have e1:gB l lo hi=[]:=by
   unfold gB;rw [show HT.sIx l.length l.length hi-HT.sIx l.length 0 lo=0 by omega,List.take_zero]
  rw [e0,e1]
  cases l with
  | nil=>rfl
  | cons c r=>rfl
theorem jS:SlR X (fun x lo hi H Q=>∃ a,x=T a∧a.length<=sizeLine∧Q (T (gB a lo hi)) H):=by
 intro pins s σ H x v vl vu lo hi sl Q I rx hs pl pu h;obtain ⟨a,rfl,hz,q⟩:=h;obtain ⟨t,rfl⟩:=rx;obtain ⟨l,hl1,hl2⟩:∃ l:Option (Int×Tok),partValue l=vl∧l.map (·.1)=lo:=by
  cases pl with
  | none=>exact ⟨none,rfl,rfl⟩
  | int i t=>exact ⟨some (i,t),rfl,rfl⟩
 obtain ⟨u,hu1,hu2⟩:∃ u:Option (Int×Tok),partValue u=vu∧u.map (·.1)=hi:=by
  cases pu with
  | none=>exact ⟨none,rfl,rfl⟩
  | int i t=>exact ⟨some (i,t),rfl,rfl⟩
 refine ⟨"str",_,F.slot_str_getitem.lookup,typeIs_str _ _ _,?_⟩
 have hsl:s.heap.IsSlice sl l u none:=by
  obtain ⟨o,ho,hc,hd⟩:=hs;exact ⟨o,ho,hc,by rw [hl1,hu1];exact hd⟩
 refine wpAny_getItem_str_slice hsl rfl ?_;have key:(if ((1:Int)==1&&(Builtin.Str.strSliceIndices lo hi 1 (tx a).length).length==(tx a).length)=true then (tx a) else ⟨((Builtin.Str.strSliceIndices lo hi 1 (tx a).length).filterMap ((tx a).cps[·]?)).toArray⟩)=tx (gB a lo hi):=Gz a lo hi;unfold sliceMade slicePicked;rw [hl2,hu2];refine post_val_or_str ⟨?_,fun t' k=>?_⟩
 ·show (Txt.slice (tx a) lo hi).length<=sizeLine
  exact Nat.le_trans (Txt.slice_le _ _ _) (by rw [gG];exact hz)
 ·refine ⟨T (gB a lo hi),H,I.tok _,⟨t',?_⟩,q⟩
  exact congrArg (fun z=>Value.str z t') key
theorem zD (n:Nat)(l:List Nat):(Wd.rep n l).length=n*l.length:=Wd.Ax n l
theorem Cr (n:Nat)(c:Array Nat):∀ acc:Array Nat,(List.replicate n c).foldl (· ++ ·) acc=acc++(Wd.rep n c.toList).toArray:=by
 induction n with
 | zero=>intro acc;simp [Wd.rep]
 | succ n ih =>
  intro acc;rw [List.replicate_succ,List.foldl_cons,ih];rw [Wd.pM,Array.append_assoc]
  congr 1
  apply Array.ext';simp
theorem Lk (n:Nat)(l:List Nat):Txt.mul (tx l) (n:Int)=tx (Wd.rep n l):=by
 unfold Txt.mul;by_cases h1:(n:Int)<1
 ·have e:n=0:=by omega
  subst e;rw [if_pos h1];rfl
 ·rw [if_neg h1]
  by_cases h2:((n:Int)==1||(tx l).length==0)=true
  ·rw [if_pos h2]
   rw [Bool.or_eq_true,beq_iff_eq,beq_iff_eq,gG] at h2;rcases h2 with h2 | h2
   ·have e:n=1:=by omega
    subst e;rw [Wd.Ji]
   ·have e:l=[]:=List.length_eq_zero_iff.mp h2
    subst e
    have:Wd.rep n []=[]:=List.length_eq_zero_iff.mp (by rw [zD];simp)
    rw [this]
  ·rw [if_neg h2,Int.toNat_natCast,Cr]
   simp [tx]
theorem vZ:OpR X (binaryOp .Mult) (fun x y H Q=>∃ a,x=T a∧∃ n:Nat,y = .int n∧(n<=sizeLine∧n*a.length<=sizeLine)∧Q (T (Wd.rep n a)) H):=by
 intro pins s σ H x y v u Q I rx ry h;obtain ⟨a,rfl,n,rfl,⟨h1,h2⟩,q⟩:=h;obtain ⟨t,rfl⟩:=rx;obtain ⟨t',rfl⟩:=ry;have hs:sizeLine=16777216:=sizeLine_eq;refine SB.mul ⟨?_,?_,?_⟩ fun t' k=>⟨T (Wd.rep n a),H,I.tok _,⟨t',by rw [Lk]⟩,q⟩
 ·have e1:decide ((n:Int) < -(2 ^ 63:Int))=false:=decide_eq_false (by omega)
  have e2:decide ((n:Int)≥2 ^ 63)=false:=decide_eq_false (by omega);rw [e1,e2];rfl
 ·intro hn _
  rw [gG];have h3:n*a.length<=16777216:=by omega
  intro hc;have h4:((n*a.length:Nat):Int)<=16777216:=by omega
  have hn':(0:Int)<n:=by omega
  have h5:((2 ^ 63-1)/(n:Int))*n<=2 ^ 63-1:=Int.ediv_mul_le _ (by omega);have h6:(2 ^ 63-1:Int)<((2 ^ 63-1)/(n:Int)+1)*n:=Int.lt_ediv_add_one_mul_self _ hn';have h7:((2 ^ 63-1)/(n:Int)+1)*n<=(a.length:Int)*n:=Int.mul_le_mul_of_nonneg_right (by omega) (by omega);have h8:((n*a.length:Nat):Int)=(a.length:Int)*n:=by rw [Int.natCast_mul,Int.mul_comm]
  omega
 ·intro hn _
  rw [gG,Int.toNat_natCast,Nat.mul_comm];unfold Builtin.Str.tooLong;exact decide_eq_false (by omega)
theorem sS:∀ {ls:List (List Nat)} {us:List Value},bT (ls.map T) us->StrsAre us (ls.map tx)
 | [],us,r=>by
  cases r;exact .nil
 | l::ls,us,r=>by
  rw [List.map_cons] at r
  cases r with
  | cons r1 r2 =>
   obtain ⟨t,rfl⟩:=r1;exact .cons _ _ (sS r2)
end
end L2
namespace L2
theorem iE {w:List Nat}{k:Nat}(h:k<=w.length):gB w (some (k:Int)) none=w.drop k:=by
 unfold gB;rw [HT.fD,HT.fB,Nat.min_eq_left h];exact List.take_of_length_le (by rw [List.length_drop];omega)
theorem Kb {w:List Nat}{k:Nat}(h:k<=w.length):gB w none (some (k:Int))=w.take k:=by
 unfold gB;rw [HT.fD,HT.fB,Nat.min_eq_left h,List.drop_zero,Nat.sub_zero]
open PyProof.Rows PySem PySem.Spec
set_option genInjectivity false in
structure cP (N N':List Str)(sc scope:Scope)(x:Str):Prop where
 kind:scope.kind = .function
 cell:∀ y∈scope.names,y.2≠.cell
 names:∀ y∈scope.names,y.2 = .local->scope.names.lookup y.1=some .local
 var:scope.names.lookup x=some .local
 ok:∀ y∈scope.names,y.2 = .free->sc.names.lookup y.1=some .cell∨sc.names.lookup y.1=some .free
 hd:N'[0]?=some x
 len:N'.length=N.length+1
 sub:∀ i,i<N.length->N'[i+1]?=N[i]?∨(N'[i+1]?.map fun y=>scope.names.lookup y)=some none
 noe:scope.names.lookup ("" : Str)=none
 nol:∀ y∈N'.tail,scope.names.lookup y≠some .local
 nd:N'.Nodup
def dG (cells:List (Str×Addr)):List (Str×NameKind)->List (Str×Addr)->List (Str×Addr)
 | [],acc=>acc
 | (n,k)::r,acc=>dG cells r (if k == .free then (n,(cells.lookup n).getD 0)::acc else acc)
theorem lE {cells:List (Str×Addr)}{y:Str}{c:Addr}:∀ (names:List (Str×NameKind)) (acc:List (Str×Addr)),(∀ z∈names,z.2 = .free->∃ c,cells.lookup z.1=some c) ->
  (acc.lookup y=some c->cells.lookup y=some c)->(dG cells names acc).lookup y=some c->cells.lookup y=some c
 | [],acc,_,ha,h=>ha h
 | (n,k)::r,acc,hz,ha,h=>by
  unfold dG at h;refine lE r _ (fun z hm=>hz z (List.mem_cons_of_mem _ hm)) (fun q=>?_) h;split at q
  ·rename_i hk
   obtain ⟨c',e⟩:=hz (n,k) List.mem_cons_self (by simpa using hk);rw [List.lookup_cons] at q;split at q
   ·rename_i he
    have:y=n:=by simpa using he
    subst this;rw [e] at q;rw [e];exact q
   ·exact ha q
  ·exact ha q
theorem xG {cells:List (Str×Addr)}{y:Str}:∀ (names:List (Str×NameKind)) (acc:List (Str×Addr)),(∃ c,acc.lookup y=some c)->∃ c,(dG cells names acc).lookup y=some c
 | [],acc,h=>h
 | (n,k)::r,acc,⟨c,h⟩=>by
  unfold dG;refine xG r _ ?_;split
  ·rw [List.lookup_cons]
   split
   ·exact ⟨_,rfl⟩
   ·exact ⟨c,h⟩
  ·exact ⟨c,h⟩
theorem pT {cells:List (Str×Addr)}{y:Str}:∀ (names:List (Str×NameKind)) (acc:List (Str×Addr)),(y,NameKind.free)∈names->∃ c,(dG cells names acc).lookup y=some c
 | (n,k)::r,acc,h=>by
  unfold dG;rcases List.mem_cons.mp h with e | h
  ·cases e
   refine xG r _ ⟨(cells.lookup y).getD 0,?_⟩;simp
  ·exact pT r _ h
theorem gX {scope:Scope}{env:Env}(h:∀ z∈scope.names,z.2 = .free->∃ c,env.cells.lookup z.1=some c):closureFor scope env=pure (dG env.cells scope.names []):=by
 have gen:∀ (names:List (Str×NameKind)) (acc:List (Str×Addr)),(∀ z∈names,z.2 = .free->∃ c,env.cells.lookup z.1=some c) ->
   (forIn names acc fun (x:Str×NameKind) (r:List (Str×Addr))=>(if (x.2==NameKind.free)=true then (do let a <- cellOf env x.1;pure (ForInStep.yield ((x.1,a)::r))) else pure (ForInStep.yield r):Sem (ForInStep (List (Str×Addr)))))=(pure (dG env.cells names acc):Sem (List (Str×Addr))):=by
  intro names
  induction names with
  | nil=>intro acc _;rfl
  | cons z r ih =>
   intro acc hz;obtain ⟨n,k⟩:=z;rw [List.forIn_cons];unfold dG;by_cases hk:(k==NameKind.free)=true
   ·obtain ⟨c,e⟩:=hz (n,k) List.mem_cons_self (by simpa using hk)
    have e':env.cells.lookup n=some c:=e;simp only [hk,if_true,cellOf,e',pure_bind,Option.getD_some];exact ih _ fun z hm=>hz z (List.mem_cons_of_mem _ hm)
   ·simp only [hk,Bool.false_eq_true,if_false,pure_bind]
    exact ih _ fun z hm=>hz z (List.mem_cons_of_mem _ hm)
 have g:=gen scope.names [] h;unfold closureFor;refine Eq.trans ?_ (congrArg (fun (m:Sem (List (Str×Addr)))=>m >>= fun cs=>pure cs) g);rfl
theorem cI (scope:Scope)(env:Env)(y:Str):(relabel scope env).names.lookup y=(scope.names.lookup y).map fun k=>if (k==NameKind.free&&env.scope.kind == .function&&env.kindOf y==some .cell)=true then NameKind.cell else k:=by
 unfold relabel;show List.lookup y (scope.names.map fun (n,k)=>if (k==NameKind.free&&env.scope.kind == .function&&env.kindOf n==some .cell)=true then (n,NameKind.cell) else (n,k))=_
 induction scope.names with
 | nil=>rfl
 | cons z r ih =>
  obtain ⟨n,k⟩:=z;rw [List.map_cons];by_cases hy:(y==n)=true
  ·have e:y=n:=by simpa using hy
   subst e;by_cases hc:(k==NameKind.free&&env.scope.kind == .function&&env.kindOf y==some .cell)=true
   ·simp only [hc,if_true,List.lookup_cons,beq_self_eq_true,Option.map_some]
   ·simp only [hc,if_false,List.lookup_cons,beq_self_eq_true,Option.map_some,Bool.false_eq_true]
  ·have hy':(y==n)=false:=by simpa using hy
   by_cases hc:(k==NameKind.free&&env.scope.kind == .function&&env.kindOf n==some .cell)=true
   ·simp only [hc,if_true,List.lookup_cons,hy']
    exact ih
   ·simp only [hc,if_false,List.lookup_cons,hy',Bool.false_eq_true]
    exact ih
theorem eR {κ:Type}:∀ {l:List (Str×κ)} {y:Str} {k:κ},l.lookup y=some k->(y,k)∈l:=fun h=>PySem.mem_of_lookup h
abbrev bY (X:Cx)(N':List Str)(scope:Scope)(cl:List (Str×Addr))(C:Addr)(s:Shared)(H:Hp)(fp:List Addr):Cx :=
 { X with env:=compEnvC scope cl C X.env,N:=N',s₀:=s,H₀:=H,outer:=X.stack,stack:=X.stack,ex:=fp,fn:=fun _=>false,xe:=fun _ _=>False }
abbrev Oc (cds:List Expr)(env:Env):Sem Bool:=forIn cds true fun c r=>if r=true then do let ok <- isTrue c env (eval c env);pure (ForInStep.yield ok) else pure (ForInStep.yield r)
def PTL (X:Cx)(cds:List Expr)(t:TT):Prop :=
 ∀ (pins:List (Addr×Obj)) (s:Shared) (σ:St) (H:Hp) (Q:Bool->Hp->Prop),Inv X pins σ H s->t σ H Q->wpAny (model X.prog X.w) X.A (Oc cds X.env) (TP X pins σ Q) X.xe s
theorem Ae {X:Cx}:PTL X [] (fun _ H k=>k true H):=fun pins s σ H Q I q=>wpAny_tests_nil ⟨H,I,q⟩
theorem Bm {X:Cx}{cd:Expr}{tc:TT}(h:PT X cd tc):PTL X [cd] tc:=fun pins s σ H Q I q=>wpAny_tests_one (h pins s σ H Q I q)
theorem kD {prog:Program}{w:World}{A:Around}{R:Result->Shared->Prop}{s:Shared}{elt target iter:Expr}{cds:List Expr}{scope:Scope}{pos:Pos}{it acc:Value}{env:Env}(I:Nat->Shared->Prop)
  (turn:∀ n s,I n s->wpAny (model prog w) A (pyNext it) (fun r s₁=>match r with
   | none=>R (.ok .next) s₁
   | some v=>wpAny (model prog w) A (letOwnedTupleGo target it v) (fun _ s₁'=>wpAny (model prog w) A (assign target env v) (fun _ s₂=>wpAny (model prog w) A (Oc cds env) (fun ok s₂' =>
    if ok=true then wpAny (model prog w) A (eval elt env) (fun x s₃ =>
     wpAny (model prog w) A (call (.builtin "list.append") [acc,x]) (fun _ s₄=>∃ m,m<n∧I m s₄) (fun _ _=>False) s₃) (fun _ _=>False) s₂'
    else ∃ m,m<n∧I m s₂') (fun _ _=>False) s₂) (fun _ _=>False) s₁') (fun _ _=>False) s₁) (fun _ _=>False) s)
  (n:Nat) (h:I n s) :
  codeAny (model prog w) A (.compLoop (.ListComp elt [⟨target,iter,cds,0⟩] scope pos) 0 it acc env) R s:=by
 refine codeAny_loop rfl I (fun n s hI=>?_) n h;show wpAny _ A ((compTurn (.ListComp elt [⟨target,iter,cds,0⟩] scope pos) 0 it acc env).onRaise (fun x=>do noteFrame x env;theTreesLotGoes x)) _ _ s;refine wpAny_noted ?_;rw [compTurn_list];refine wpAny_bind (wpAny_standAt (wpAny_bind (wpAny_mono (turn n s hI) (fun r s₁ h₁=>?_) fun _ _ h'=>h'.elim)))
 cases r with
 | none=>exact wpAny_pure h₁
 | some v =>
  refine wpAny_bind (wpAny_mono h₁ (fun _ s₀ h₀=>?_) fun _ _ h'=>h'.elim);refine wpAny_bind (wpAny_mono h₀ (fun _ s₂ h₂=>?_) fun _ _ h'=>h'.elim);refine wpAny_bind ((wpAny_mono h₂ (fun ok s₃ h₃=>?_) fun _ _ h'=>h'.elim))
  cases ok with
  | false=>exact wpAny_pure ⟨rfl,by simpa using h₃⟩
  | true =>
   have h₃':=h₃;simp only [if_true] at h₃';exact wpAny_bind (wpAny_bind (wpAny_mono h₃' (fun x s₄ h₄=>wpAny_bind (wpAny_mono h₄ (fun _ s₅ h₅=>wpAny_pure (wpAny_pure ⟨rfl,h₅⟩)) fun _ _ h'=>h'.elim)) fun _ _ h'=>h'.elim))
theorem jG {prog:Program}{w:World}{A:Around}{R:Result->Shared->Prop}{s:Shared}{elt target iter:Expr}{scope:Scope}{pos:Pos}{it acc:Value}{env:Env}(I:Nat->Shared->Prop)
  (turn:∀ n s,I n s->wpAny (model prog w) A (pyNext it) (fun r s₁=>match r with
   | none=>R (.ok .next) s₁
   | some v=>wpAny (model prog w) A (letOwnedTupleGo target it v) (fun _ s₁'=>wpAny (model prog w) A (assign target env v) (fun _ s₂=>wpAny (model prog w) A (eval elt env) (fun x s₃ =>
    wpAny (model prog w) A (call (.builtin "list.append") [acc,x]) (fun _ s₄=>∃ m,m<n∧I m s₄) (fun _ _=>False) s₃)
    (fun _ _=>False) s₂) (fun _ _=>False) s₁') (fun _ _=>False) s₁) (fun _ _=>False) s)
  (n:Nat) (h:I n s) :
  codeAny (model prog w) A (.compLoop (.ListComp elt [⟨target,iter,[],0⟩] scope pos) 0 it acc env) R s:=by
 refine codeAny_loop rfl I (fun n s hI=>?_) n h;show wpAny _ _ ((compTurn (.ListComp elt [⟨target,iter,[],0⟩] scope pos) 0 it acc env).onRaise (fun x=>do noteFrame x env;theTreesLotGoes x)) _ _ s;refine wpAny_noted ?_;rw [compTurn_list1];refine wpAny_bind (wpAny_standAt (wpAny_bind (wpAny_mono (turn n s hI) (fun r s₁ h₁=>?_) fun _ _ h'=>h'.elim)))
 cases r with
 | none=>exact wpAny_pure h₁
 | some v =>
  refine wpAny_bind (wpAny_mono h₁ (fun _ s₁' h₁'=>?_) fun _ _ h'=>h'.elim);exact wpAny_bind (wpAny_mono h₁' (fun _ s₂ h₂=>wpAny_bind (wpAny_bind (wpAny_mono h₂ (fun x s₃ h₃=>wpAny_bind (wpAny_mono h₃
   (fun _ s₄ h₄=>wpAny_pure (wpAny_pure ⟨rfl,h₄⟩)) fun _ _ h'=>h'.elim)) fun _ _ h'=>h'.elim))) fun _ _ h'=>h'.elim)
def iM (te:TE)(σ:St)(Q:VK)(J:It)(H1:Hp):Prop:=∀ D,H1 D=none->∃ W:Nat->Nat->List V->Hp->Prop,(∃ m,W 0 m [] (upd H1 D (.lst [])))∧∀ i m ys H2,W i m ys H2 ->
 (J.stop i H2∧Q (.ref D) H2)∨(J.go i H2∧ys.length<sizeLine∧∃ N:V->Hp->Prop,(∀ v H',N v H'->H' D=some (.lst ys)∧∃ m',m'<m∧W (i+1) m' (ys++[v]) (upd H' D (.lst (ys++[v])))) ∧
  ∀ y H',J.yld i H2 y H'->te (some y::σ) H' N)
def Kk (wi:TI)(te:TE):TE:=fun σ H Q=>wi σ H (iM te σ Q)
def gZ (tc:TT)(te:TE)(σ:St)(Q:VK)(J:It)(H1:Hp):Prop:=∀ D,H1 D=none->∃ W:Nat->Nat->List V->Hp->Prop,(∃ m,W 0 m [] (upd H1 D (.lst [])))∧∀ i m ys H2,W i m ys H2 ->
 (J.stop i H2∧Q (.ref D) H2)∨(J.go i H2∧ys.length<sizeLine∧∃ N:V->Hp->Prop,(∀ v H',N v H'->H' D=some (.lst ys)∧∃ m',m'<m∧W (i+1) m' (ys++[v]) (upd H' D (.lst (ys++[v])))) ∧
  ∃ Nn:Hp->Prop,(∀ H',Nn H'->∃ m',m'<m∧W (i+1) m' ys H') ∧
  ∀ y H',J.yld i H2 y H'->tc (some y::σ) H' fun b H''=>if b=true then te (some y::σ) H'' N else Nn H'')
def Ga (wi:TI)(tc:TT)(te:TE):TE:=fun σ H Q=>wi σ H (gZ tc te σ Q)
section
variable {X:Cx}{N':List Str}{scope:Scope}{x:Str}{px:Pos}{elt iter:Expr}{cds:List Expr}{pos:Pos}{te:TE}{tc:TT}{wi:TI}
theorem qT (S:cP X.N N' X.env.scope scope x)(hc:X.calm=true)(ht:∀ cl C s H fp,PTL (bY X N' scope cl C s H fp) cds tc)(he:∀ cl C s H fp,PE (bY X N' scope cl C s H fp) elt te)
  {pins:List (Addr×Obj)} {σ:St} {H:Hp} {s:Shared} {Q:VK} {E:Value->Shared->Prop} {RR:Value->Addr->Result->Shared->Prop} {it:Addr} {fp:List Addr} {tn:Nat->Heap->Prop} {J:It}
  (I:Inv X pins σ H s) (T:rX X.prog X.w X.K (.Name x px) J fp it tn) (st:tn 0 s.heap) (f2:∀ b∈fp,kU X pins H b)
  (hw:gZ tc te σ Q J H)
  (hRR:∀ D C s' H',Inv X pins σ H' s'->(∃ m,s'.heap.Ns C m)->C≠X.env.locals->(∀ y c,X.env.cells.lookup y=some c->c≠C)->H' C=none->X.s₀.heap.objs.size<=C->(∀ p∈X.pn++pins,p.1≠C)->Q (.ref D) H'->RR (.ref D) C (.ok .next) s') :
  ∃ cl,closureFor scope X.env=pure cl∧wpAny (model X.prog X.w) X.A (newList []) (fun acc s₃=>wpAny (model X.prog X.w) X.A (newFunctionEnv scope X.env.globals cl [] X.env.qual none .none (some X.env)) (fun cenv s₄ =>
   codeAny (model X.prog X.w) X.A (.compStart (.ListComp elt [⟨.Name x px,iter,cds,0⟩] scope pos) 0 (.ref it) acc { cenv with scope:=relabel scope X.env }) (RR acc cenv.locals) s₄) E s₃) E s:=by
 have hfree:∀ z∈scope.names,z.2 = .free->∃ c,X.env.cells.lookup z.1=some c:=fun z hz hk=>by
  rcases S.ok z hz hk with q | q
  ·exact I.ok.has z.1 (.inl q)
  ·exact I.ok.has z.1 (.inr q)
 refine ⟨_,gX hfree,?_⟩;have clS:∀ y c,(dG X.env.cells scope.names []).lookup y=some c->X.env.cells.lookup y=some c:=fun y c=>lE scope.names [] hfree fun q=>by cases q
 generalize hcl:dG X.env.cells scope.names []=cl at clS;have clH:∀ y,scope.names.lookup y=some .free->∃ c,cl.lookup y=some c:=fun y hy=>by
  rw [<- hcl];exact pT scope.names [] (eR hy)
 refine wpAny_newObj_type (wpAny_newFunctionEnv S.cell (by intro y hy;simp at hy) (fun h₁ hns₁ hsb₁=>?_) S.kind);have I3:Inv X pins σ (upd H s.heap.objs.size (.lst [])) { s with heap:=s.heap.push { cls:=.type "list",data:=.seq ([]:List Value).toArray } }:=I.lnew (t':=s.toks) .nil (Nat.zero_le _)
 obtain ⟨W,⟨m0,w0⟩,turn⟩:=hw s.heap.objs.size I.fresh
 dsimp only at hns₁ hsb₁ ⊢
 generalize hs3:({ s with heap:=s.heap.push { cls:=.type "list",data:=.seq ([]:List Value).toArray } }:Shared)=s3 at I3
 have hh3:s3.heap=s.heap.push { cls:=.type "list",data:=.seq ([]:List Value).toArray }:=by rw [<- hs3]
 have hsz3:s3.heap.objs.size=s.heap.objs.size+1:=by rw [hh3,Heap.size_push]
 rw [<- hh3] at hns₁ hsb₁ ⊢;have old:∀ b o,s3.heap.get? b=some o->h₁.get? b=some o:=fun b o e=>hsb₁.extBut b o (by have:=Heap.lt_size e;exact Nat.ne_of_lt this) (Heap.get?_push_of_some _ e)
 have old0:∀ b o,s.heap.get? b=some o->h₁.get? b=some o:=fun b o e=>old b o (by rw [hh3];exact Heap.get?_push_of_some _ e)
 have CneL:s3.heap.objs.size≠X.env.locals:=Nat.ne_of_gt I3.lt;have CneC:∀ y c,X.env.cells.lookup y=some c->c≠s3.heap.objs.size:=fun y c e z=>by
  obtain ⟨v,q⟩:=I3.cell y c e
  have:=q.lt
  rw [z] at this;exact absurd this (Nat.lt_irrefl _)
 have CneP:∀ p∈X.pn++pins,p.1≠s3.heap.objs.size:=fun p hp z=>by
  have:=Heap.lt_size (I3.pin p hp).1
  rw [z] at this;exact absurd this (Nat.lt_irrefl _)
 have CfreeH:∀ b o,s3.heap.get? b=some o->b<s3.heap.objs.size:=fun b o e=>by have:=Heap.lt_size e;exact this
 have fpLt:∀ b∈fp,b<s3.heap.objs.size:=fun b hb=>by
  obtain ⟨o,e,_⟩:=T.obj 0 s.heap st b hb;rw [hsz3];exact Nat.lt_succ_of_lt (Heap.lt_size e)
 have fpD:∀ b∈fp,b≠s.heap.objs.size:=fun b hb=>by
  obtain ⟨o,e,_⟩:=T.obj 0 s.heap st b hb;exact Nat.ne_of_lt (Heap.lt_size e)
 have ok':(bY X N' scope cl s3.heap.objs.size s3 (upd H s.heap.objs.size (.lst [])) fp).Ok:=by
  refine ⟨I3.ok.mod,?_,I3.ok.glob,I3.ok.blt,Nat.le_refl _,fun y z c h1 h2=>I3.ok.inj y z c (clS y c h1) (clS z c h2),fun y hy=>?_,fun y c hf=>(by cases hf),I3.ok.hd,I3.ok.frames,.inl rfl,fun b hb=>⟨Nat.ne_of_lt (fpLt b hb),fun y c e=>(f2 b hb).2.2.2.2.1 y c (clS y c e)⟩,
   fun b o e=>I3.bs b o e,Nat.le_trans I3.ok.bsz I3.sz,fun b o e hb=>?_,fun b hb z=>?_,I3.stack,I3.stkFree⟩
  ·show (relabel scope X.env).kind = .function
   exact S.kind
  ·have hy':(relabel scope X.env).names.lookup y=some .cell∨(relabel scope X.env).names.lookup y=some .free:=hy
   rw [cI] at hy'
   cases q:scope.names.lookup y with
   | none=>rw [q] at hy';rcases hy' with z | z <;> cases z
   | some k =>
    have hm:=eR q
    cases k with
    | free=>exact clH y q
    | cell=>exact absurd rfl (S.cell _ hm)
    | «local» => rw [q] at hy';rcases hy' with z | z <;> simp at z
    | globalExplicit=>rw [q] at hy';rcases hy' with z | z <;> simp at z
    | globalImplicit=>rw [q] at hy';rcases hy' with z | z <;> simp at z
  ·rcases (f2 b hb).2.2.2.1 with z | z
   ·exact I.ok.noex b o e z
   ·exact absurd (Nat.lt_of_lt_of_le (Heap.lt_size e) (Nat.le_trans I.ok.bsz z)) (Nat.lt_irrefl _)
  ·rcases List.mem_cons.mp (I3.stkSub b z) with q | q
   ·exact (f2 b hb).2.1 q
   ·exact (f2 b hb).2.2.1 q
 have fpOk':∀ {H':Hp},(∀ b∈fp,H' b=none)->∀ b∈fp,kU (bY X N' scope cl s3.heap.objs.size s3 (upd H s.heap.objs.size (.lst [])) fp) pins H' b:=fun hn b hb =>
  ⟨hn b hb,Nat.ne_of_lt (fpLt b hb),fun z=>by
   rcases List.mem_cons.mp (I3.stkSub b z) with q | q
   ·exact (f2 b hb).2.1 q
   ·exact (f2 b hb).2.2.1 q,.inl hb,fun y c e=>(f2 b hb).2.2.2.2.1 y c (clS y c e),(f2 b hb).2.2.2.2.2⟩
 have I4:Inv (bY X N' scope cl s3.heap.objs.size s3 (upd H s.heap.objs.size (.lst [])) fp) pins (none::σ) (upd H s.heap.objs.size (.lst [])) { s3 with heap:=h₁,toks:=s3.toks+([]:List (Str×Value)).length }:=by
  refine ⟨ok',rfl,I3.bare,Un.kept old,⟨_,hns₁,fun i y v e1 e2 vis=>?_⟩,fun y c e=>?_,?_,fun y c e=>I3.freeC y c (clS y c e),fun p hp=>?_,I3.hok.kept old,?_⟩
  ·cases i with
   | zero=>cases e2
   | succ i =>
    have e2':σ[i]?=some (some v):=by simpa using e2
    have hi:i<X.N.length:=by rw [<- I3.len];exact (List.getElem?_eq_some_iff.mp e2').1
    have vis':(relabel scope X.env).names.lookup y=some .local∨(relabel scope X.env).names.lookup y=some .cell∨(relabel scope X.env).names.lookup y=some .free:=vis;have e1':N'[i+1]?=some y:=e1;rcases S.sub i hi with q | q
    ·rw [e1'] at q
     have hy:X.N[i]?=some y:=q.symm;have hmem:y∈N'.tail:=by
      rw [List.mem_iff_getElem?];exact ⟨i,by rw [List.getElem?_tail];exact e1'⟩
     have hfr:scope.names.lookup y=some .free:=by
      rw [cI] at vis'
      cases q2:scope.names.lookup y with
      | none=>rw [q2] at vis';rcases vis' with z | z | z <;> cases z
      | some k =>
       cases k with
       | free=>rfl
       | cell=>exact absurd rfl (S.cell _ (eR q2))
       | «local» => exact absurd q2 (S.nol y hmem)
       | globalExplicit=>rw [q2] at vis';rcases vis' with z | z | z <;> simp at z
       | globalImplicit=>rw [q2] at vis';rcases vis' with z | z | z <;> simp at z
     have hok:=S.ok (y,.free) (eR hfr) rfl;obtain ⟨m,hn,hl⟩:=I3.loc;have visX:Vis X.env.scope y:=by
      rcases hok with z | z
      ·exact .inr (.inl z)
      ·exact .inr (.inr z)
     obtain ⟨u,r,l⟩:=hl i y v hy e2' visX;refine ⟨u,r,.inr ⟨?_,?_⟩⟩
     ·show (relabel scope X.env).names.lookup y=some .cell∨(relabel scope X.env).names.lookup y=some .free
      rw [cI,hfr,Option.map_some];by_cases hcnd:(NameKind.free==NameKind.free&&X.env.scope.kind == .function&&X.env.kindOf y==some .cell)=true
      ·left
       rw [if_pos hcnd]
      ·right
       rw [if_neg hcnd]
     ·rcases l with ⟨k,_⟩ | ⟨k,c,e,z⟩
      ·have k':X.env.scope.names.lookup y=some .local:=k
       have hok':X.env.scope.names.lookup y=some .cell∨X.env.scope.names.lookup y=some .free:=hok;rw [k'] at hok';rcases hok' with z | z <;> cases z
      ·obtain ⟨c',e'⟩:=clH y hfr
       have e3:=clS y c' e';rw [e] at e3;cases e3;obtain ⟨o,ho,hd⟩:=z;exact ⟨c,e',o,old c o ho,hd⟩
    ·rw [e1'] at q
     have q:scope.names.lookup y=none:=Option.some.inj q;rw [cI,q] at vis';rcases vis' with z | z | z <;> cases z
  ·obtain ⟨v,o,ho,hd⟩:=I3.cell y c (clS y c e)
   exact ⟨v,o,old c o ho,hd⟩
  ·show upd H s.heap.objs.size (.lst []) s3.heap.objs.size=none
   exact I3.hok.fresh (Nat.le_refl _)
  ·obtain ⟨e,n,ne,nf,d⟩:=I3.pin p hp
   refine ⟨old _ _ e,n,CneP p hp,fun z=>?_,d⟩;rcases List.mem_cons.mp (I3.stkSub p.1 z) with q | q
   ·exact ne q
   ·exact nf q
  ·show (none::σ).length=N'.length
   rw [S.len,List.length_cons,I3.len]
 have st4:tn 0 h₁:=T.keep 0 s.heap h₁ st fun b _ o e=>old0 b o e
 have loop:∀ s₄:Shared,s₄ = { s3 with heap:=h₁,toks:=s3.toks+([]:List (Str×Value)).length } ->
   codeAny (model X.prog X.w) X.A (.compLoop (.ListComp elt [⟨.Name x px,iter,cds,0⟩] scope pos) 0 (.ref it) (.ref s.heap.objs.size) (compEnvC scope cl s3.heap.objs.size X.env)) (RR (.ref s.heap.objs.size) s3.heap.objs.size) s₄:=by
  rintro s₄ rfl;refine kD (fun n s'=>∃ i v0 ys H',Inv (bY X N' scope cl s3.heap.objs.size s3 (upd H s.heap.objs.size (.lst [])) fp) pins (v0::σ) H' s'∧tn i s'.heap∧(∀ b∈fp,H' b=none)∧W i n ys H') ?_ m0
   ⟨0,none,[],_,I4,st4,fun b hb=>by rw [aH (fpD b hb)];exact (f2 b hb).1,w0⟩
  rintro n s5 ⟨i,v0,ys,H5,I5,st5,fr5,w5⟩;rcases turn i n ys H5 w5 with ⟨stop,qn⟩ | ⟨go,hz,N,hN,Nn,hNn,step⟩
  ·refine thn (T.done (bY X N' scope cl s3.heap.objs.size s3 (upd H s.heap.objs.size (.lst [])) fp) rfl rfl rfl hc i pins s5 (v0::σ) H5 (fun _ _=>False) I5 (fpOk' fr5) st5 stop) fun r s6 ⟨hr,I6⟩=>?_
   subst hr;have hch:∀ b∈fp,(b∈X.ex∨X.s₀.heap.objs.size<=b)∧b≠X.env.locals∧(∀ x c,X.env.cells.lookup x=some c->c≠b)∧∀ p∈X.pn++pins,p.1≠b:=fun b hb =>
    ⟨(f2 b hb).2.2.2.1,(f2 b hb).2.1,(f2 b hb).2.2.2.2.1,(f2 b hb).2.2.2.2.2⟩
   have I7:Inv X pins σ H5 s6:=I3.call' (ch:=fp) I6.os I6.base I6.hok I6.bare hch;obtain ⟨m,hm,_⟩:=I6.loc;exact hRR s.heap.objs.size s3.heap.objs.size s6 H5 I7 ⟨m,hm⟩ CneL CneC I6.free (Nat.le_trans I3.sz (Nat.le_refl _)) CneP qn
  ·refine thn (T.item (bY X N' scope cl s3.heap.objs.size s3 (upd H s.heap.objs.size (.lst [])) fp) rfl rfl rfl hc i pins s5 (v0::σ) H5 (fun _ _=>False) I5 (fpOk' fr5) st5 go) fun r s6 ⟨u,hr,h6⟩=>?_
   subst hr;refine thn h6 fun _ s7 ⟨y,H7,I7,r7,y7,st7,fr7⟩=>?_
   have I7':=I7.pinned (fpOk' fr7) (T.obj _ _ st7);refine wpAny_assign_Name (qU (i:=0) (v:=y) I7' S.nd S.hd (.inl (lookup_relabel_local S.var)) r7 (fun s8 I8=>?_) (.inr (lookup_relabel_local S.var)));have I8':Inv (bY X N' scope cl s3.heap.objs.size s3 (upd H s.heap.objs.size (.lst [])) fp) (pins++kZ fp s7.heap) (some y::σ) H7 s8:=I8;refine thn (ht cl s3.heap.objs.size s3 (upd H s.heap.objs.size (.lst [])) fp _ s8 (some y::σ) H7 (fun b H''=>if b=true then te (some y::σ) H'' N else Nn H'') I8' (step y H7 y7)) fun okb s8 ⟨H8,I8,q8⟩=>?_
   cases okb with
   | false =>
    have q8':Nn H8:=by simpa using q8
    obtain ⟨m',hm,w9⟩:=hNn H8 q8';refine ⟨m',hm,i+1,some y,ys,_,I8.unpinned,T.keep _ _ _ st7 fun b hb o e=>(I8.pin (b,o) (List.mem_append_right _ (List.mem_append_right _ (eQ hb e)))).1,fun b hb=>?_,w9⟩;obtain ⟨o,e,d⟩:=T.obj _ _ st7 b hb;exact (I8.pin (b,o) (List.mem_append_right _ (List.mem_append_right _ (eQ hb e)))).2.1
   | true =>
    refine thn (he cl s3.heap.objs.size s3 (upd H s.heap.objs.size (.lst [])) fp _ s8 (some y::σ) H8 N I8 (by simpa using q8)) fun w s9 ⟨v,H9,I9,r9,q9⟩=>?_
    obtain ⟨hD9,m',hm,w9⟩:=hN v H9 q9;refine thn (eU _ s9 (some y::σ) H9 (.ref s.heap.objs.size) [v] (.ref s.heap.objs.size) [w] (fun z H10=>z = .non∧H10=upd H9 s.heap.objs.size (.lst (ys++[v]))) I9 rfl (.cons r9 .nil) ⟨s.heap.objs.size,ys,v,rfl,rfl,hD9,hz,rfl,rfl⟩) fun _ s10 ⟨z,H10,I10,_,ez,e10⟩=>?_
    subst e10;refine ⟨m',hm,i+1,some y,ys++[v],_,I10.unpinned,T.keep _ _ _ st7 fun b hb o e=>(I10.pin (b,o) (List.mem_append_right _ (List.mem_append_right _ (eQ hb e)))).1,fun b hb=>?_,w9⟩;obtain ⟨o,e,d⟩:=T.obj _ _ st7 b hb;exact (I10.pin (b,o) (List.mem_append_right _ (List.mem_append_right _ (eQ hb e)))).2.1
 exact codeAny_compStart_list (loop _ (by rw [<- hs3])) (T.self X.A 0 _ _ _ st4 (loop _ (by rw [<- hs3])))
theorem iM.toF {te:TE}{σ:St}{Q:VK}{J:It}{H:Hp}(hw:iM te σ Q J H):gZ (fun _ H k=>k true H) te σ Q J H:=fun D hD=>by
 obtain ⟨W,h0,hW⟩:=hw D hD;refine ⟨W,h0,fun i m ys H2 hw2=>?_⟩;rcases hW i m ys H2 hw2 with g | ⟨g1,g2,N,g3,g4⟩
 ·exact .inl g
 ·exact .inr ⟨g1,g2,N,g3,fun _=>False,fun _ z=>z.elim,fun y H' hy=>wF (g4 y H' hy)⟩
theorem xR {at':St->VK->It->Hp->Prop}(S:cP X.N N' X.env.scope scope x)(hc:X.calm=true)(hi:PI X (.Name x px) iter wi)(ht:∀ cl C s H fp,PTL (bY X N' scope cl C s H fp) cds tc)(he:∀ cl C s H fp,PE (bY X N' scope cl C s H fp) elt te)(cv:∀ σ Q J H,at' σ Q J H->gZ tc te σ Q J H)
  (hs:∀ x,foldedSetIterable iter X.env x=pure x:=by intro _;rfl):PE X (.ListComp elt [⟨.Name x px,iter,cds,0⟩] scope pos) (fun σ H Q=>wi σ H (at' σ Q)):=by
 intro pins s σ H Q I h;rw [eval_ListComp];have hfree:∀ z∈scope.names,z.2 = .free->∃ c,X.env.cells.lookup z.1=some c:=fun z hz hk=>by
  rcases S.ok z hz hk with q | q
  ·exact I.ok.has z.1 (.inl q)
  ·exact I.ok.has z.1 (.inr q)
 refine wpAny_comprehension_free (use:=none) rfl hs (gX hfree) S.kind S.names (thn (hi pins s σ H _ I h) fun xv s1 h1=>thn h1 fun itv s2 h2=>?_);obtain ⟨it,fp,tn,J,H2,e,I2,T,st2,f2,hw⟩:=h2;subst e;obtain ⟨cl,hcl,hrun⟩:=qT (tc:=tc) (cds:=cds) (elt:=elt) (iter:=iter) (pos:=pos) (px:=px) (E:=X.xe) (RR:=fun acc C=>compPost (model X.prog X.w) X.A X.xe none (EP X pins σ Q) acc C) S hc ht he I2 T st2 f2 (cv _ _ _ _ hw) (fun D C s' H' I' ⟨m,hm⟩ n1 n2 n3 n4 n5 q =>
  ⟨m,hm,fun h' hsb=>⟨.ref D,H',I'.turned (it:=C) (t':=s'.toks) (fun b o hb e=>(hsb.2 b hb).trans e) n3 n1 (.inr n4) n2 n5,rfl,q⟩⟩)
 have ecl:(pure (dG X.env.cells scope.names []):Sem (List (Str×Addr)))=pure cl:=(gX hfree).symm.trans hcl;have ecl':dG X.env.cells scope.names []=cl:=by
  injection ecl
 rw [ecl'];exact hrun
theorem nL {at':St->VK->It->Hp->Prop}{i:Nat}{y:Str}{py spos:Pos}(S:cP X.N N' X.env.scope scope x)(hc:X.calm=true)(hi:PI X (.Name x px) iter wi)(ht:∀ cl C s H fp,PTL (bY X N' scope cl C s H fp) cds tc)(he:∀ cl C s H fp,PE (bY X N' scope cl C s H fp) elt te)(cv:∀ σ Q J H,at' σ Q J H->gZ tc te σ Q J H)
  (hN:X.N.Nodup) (hy:X.N[i]?=some y) (hyl:X.env.scope.names.lookup y=some .local)
  (hsw:swapsWith (.ListComp elt [⟨.Name x px,iter,cds,0⟩] scope pos) (some (.Name y py)) spos.line X.env=pure true:=by rfl)
  (hs:∀ x,foldedSetIterable iter X.env x=pure x:=by intro _;rfl):PS X (.Assign [.Name y py] (.ListComp elt [⟨.Name x px,iter,cds,0⟩] scope pos) spos) (Hq (fun σ H Q=>wi σ H (at' σ Q)) (tG i)):=by
 intro pins s σ H D0 I h;have hfree:∀ z∈scope.names,z.2 = .free->∃ c,X.env.cells.lookup z.1=some c:=fun z hz hk=>by
  rcases S.ok z hz hk with q | q
  ·exact I.ok.has z.1 (.inl q)
  ·exact I.ok.has z.1 (.inr q)
 rw [exec_Assign_Name_used _ _ _ _ hsw];refine wpAny_bind (wpAny_standAt (wpAny_bind ?_));show wpAny _ X.A (do let _ <- comprehension (.ListComp elt [⟨.Name x px,iter,cds,0⟩] scope pos) scope X.env _ (newList []) false (eval iter X.env) (some (assign (.Name y py) X.env))) _ _ s;refine wpAny_bind (wpAny_mono (wpAny_comprehension_free (use:=some (assign (.Name y py) X.env)) (Q:=fun _ s'=>SP X pins D0 .next s') rfl hs (gX hfree) S.kind S.names
  (thn (hi pins s σ H _ I h) fun xv s1 h1=>thn h1 fun itv s2 h2=>?_)) (fun _ s' hq=>wpAny_pure (wpAny_pure hq)) fun _ _ e=>e)
 obtain ⟨it,fp,tn,J,H2,e,I2,T,st2,f2,hw⟩:=h2;subst e;obtain ⟨cl,hcl,hrun⟩:=qT (tc:=tc) (cds:=cds) (elt:=elt) (iter:=iter) (pos:=pos) (px:=px) (E:=X.xe) (Q:=fun x H1=>tG i x σ H1 D0.nx) (RR:=fun acc C=>compPost (model X.prog X.w) X.A X.xe (some (assign (.Name y py) X.env)) (fun _ s'=>SP X pins D0 .next s') acc C) S hc ht he I2 T st2 f2 (cv _ _ _ _ hw) (fun D C s' H' I' ⟨m,hm⟩ n1 n2 n3 n4 n5 q=>by
  show wpAny _ X.A (assign (.Name y py) X.env (.ref D)) _ _ _;refine wpAny_assign_Name (tN (i:=i) (v:=.ref D) I' hN hy (.inl hyl) rfl (fun s'' I'' ⟨a,hsa,hwa⟩=>?_) (.inr hyl));have haC:C≠a:=by
   rcases hwa with z | z
   ·rw [z];exact n1
   ·intro z2
    exact n2 y a z z2.symm
  refine ⟨m,hm.sameBut hsa haC,fun h' hsb=>?_⟩;exact ⟨_,H',I''.turned (it:=C) (t':=s''.toks) (fun b o hb e=>(hsb.2 b hb).trans e) n3 n1 (.inr n4) n2 n5,q⟩)
 have ecl:(pure (dG X.env.cells scope.names []):Sem (List (Str×Addr)))=pure cl:=(gX hfree).symm.trans hcl;have ecl':dG X.env.cells scope.names []=cl:=by
  injection ecl
 rw [ecl'];exact hrun
theorem eL (S:cP X.N N' X.env.scope scope x)(hc:X.calm=true)(hi:PI X (.Name x px) iter wi)(he:∀ cl C s H fp,PE (bY X N' scope cl C s H fp) elt te)
  (hs:∀ x,foldedSetIterable iter X.env x=pure x:=by intro _;rfl):PE X (.ListComp elt [⟨.Name x px,iter,[],0⟩] scope pos) (Kk wi te) :=
 xR (at':=fun σ Q=>iM te σ Q) S hc hi (fun _ _ _ _ _=>Ae) he (fun _ _ _ _ h=>h.toF) hs
theorem zC {i:Nat}{y:Str}{py spos:Pos}(S:cP X.N N' X.env.scope scope x)(hc:X.calm=true)(hi:PI X (.Name x px) iter wi)(he:∀ cl C s H fp,PE (bY X N' scope cl C s H fp) elt te)
  (hN:X.N.Nodup) (hy:X.N[i]?=some y) (hyl:X.env.scope.names.lookup y=some .local)
  (hsw:swapsWith (.ListComp elt [⟨.Name x px,iter,[],0⟩] scope pos) (some (.Name y py)) spos.line X.env=pure true:=by rfl)
  (hs:∀ x,foldedSetIterable iter X.env x=pure x:=by intro _;rfl):PS X (.Assign [.Name y py] (.ListComp elt [⟨.Name x px,iter,[],0⟩] scope pos) spos) (Hq (Kk wi te) (tG i)) :=
 nL (at':=fun σ Q=>iM te σ Q) S hc hi (fun _ _ _ _ _=>Ae) he (fun _ _ _ _ h=>h.toF) hN hy hyl hsw hs
end
set_option genInjectivity false in
structure Cal (P:Program)(w:World)(K:PySem.W.Frag)(mg:Str->Option Value)(base:Heap)(CX:CXT)(x:Str)(k:Nat)(ps:List Str)(sp:Sp):Prop where
 ex:∃ (f:Addr) (fd:FuncData),cO P w K mg base CX k f fd ps sp∧mg x=some (.ref f)∧PySem.W.keepIn K (.ref f)=true∧lQ K fd ps []
section
variable {X:Cx}
theorem aP {CX:CXT}{x:Str}{j k:Nat}{ps:List Str}{sp:Sp}{E:XK}{e:Expr}{es:List Expr}{t:TA}{p pos:Pos}(c:Cal X.prog X.w X.K X.mg X.base CX x j ps sp)(hr:gD k X.A)(hx:jJ CX X E)(ha:PA X (e::es) t)
  (hjk:j<=k:=by decide) (hg:Gl X x:=by rfl) (hdb:(x==("__debug__" : Str))=false:=by decide) (he:starEach (e::es) X.env=(false,eval e X.env)::starEach es X.env:=by rfl) (hpl:(backTo pos (starEach es X.env)).any (·.1)=false:=by rfl) :
  PE X (.Call (.Name x p) (e::es) [] pos) (Kf sp [] E t):=by
 obtain ⟨f,fd,F,hm,hk,hb⟩:=c.ex;exact Jd F (hr.mono hjk) hg hm hk hb .nil hx ha hdb he hpl
theorem cH (l:List Nat){x:Str}{j pos}(h:x=tx l):PE X (.Constant (.str x) j pos) (tC (T l)):=by
 subst h;exact Nf
theorem eT:eI X (.builtin "len") (fun xs H Q=>∃ (l:List Nat),xs=[T l]∧l.length<=sizeLine∧Q (.int (l.length:Nat)) H):=by
 intro pins s σ H xs us Q I r h;obtain ⟨l,e,hz,q⟩:=h;exact vI pins s σ H xs us Q I r ⟨tx l,e,by rw [gG];exact hz,by rw [gG];exact q⟩
theorem Pe:IxR X (fun x y H Q=>∃ (l:List Nat),x=T l∧∃ (i:Int),y = .int i∧l.length<=sizeLine∧∃ c,atI l i=some c∧Q (T [c]) H):=by
 intro value slice pins s σ H x y v u Q I rx ry h hs;obtain ⟨l,e1,i,e2,hz,c,hc,q⟩:=h;exact Lw value slice pins s σ H x y v u Q I rx ry ⟨tx l,i,c,e1,e2,by rw [gG];exact hz,by rw [dH];exact hc,q⟩ hs
theorem jP:eI X (.builtin "isinstance") (fun xs H Q=>∃ (x:V) (c:String) (t:Value) (b:Bool),xs=[x,.ty c]∧mK X.K H x t∧PySem.W.kitOne X.K t (.type c)=some b∧Q (.bl b) H):=by
 intro pins s σ H xs us Q I r h;obtain ⟨x,c,t,b,rfl,ty,e,q⟩:=h;obtain ⟨u,w',rfl,ru,rw'⟩:=Nk r;cases (show w'=Value.type c from rw');exact Da I ru ty e fun tk=>⟨.bl b,H,I.tok tk,rfl,q⟩
theorem xW {K:PySem.W.Frag}(T:String):PySem.W.kitOne K (.type T) (.type T)=some true:=by
 unfold PySem.W.kitOne;rw [if_pos (by simp)]
theorem vH {K:PySem.W.Frag}:PySem.W.kitOne K (.type "int") (.type "bool")=some false:=by
 unfold PySem.W.kitOne;rw [if_neg (by decide)];rfl
theorem jZ:OpR X (binaryOp .Add) (fun x y H Q=>∃ (l b:Addr) (xs zs:List V),x = .ref l∧y = .ref b∧SqL X.K H l xs∧SqL X.K H b zs∧xs.length+zs.length<=sizeLine∧∀ p,H p=none->Q (.ref p) (upd H p (.lst (xs++zs)))):=by
 intro pins s σ H x y v u Q I rx ry h;obtain ⟨l,b,xs,zs,rfl,rfl,hH,hB,hz,q⟩:=h;cases rx;cases ry;obtain ⟨its,r,⟨⟨cls,dd,data,sl⟩,n,ho,hc,hdd,hd⟩,_⟩:=I.list hH;obtain ⟨its2,r2,⟨⟨cls2,dd2,data2,sl2⟩,n2,ho2,hc2,hdd2,hd2⟩,_⟩:=I.list hB;simp only at hc hd hc2 hd2;subst hc hd hc2 hd2;have e:its.toArray++its2.toArray=(its++its2).toArray:=by simp
 refine concat_meets ⟨_,ho,rfl⟩ ⟨_,ho2,rfl⟩ noFill_list_add seq_list_add PySem.F.slot_list_add PySem.F.entry_list_add (PySem.F.args_list_add_2 _ _) (list_addW l b its.toArray its2.toArray n n2 dd dd2 sl sl2 (by rw [List.size_toArray,List.size_toArray,<- r.length,<- r2.length];exact hz)) ⟨ho,ho2,?_⟩;rw [e];exact ⟨.ref _,_,I.lnew (t':=s.toks) (r.append r2) (by rw [List.length_append];exact hz),rfl,q _ I.fresh⟩
theorem gM (ls:List (List Nat)):(ls.map T).all gY=true:=by
 rw [List.all_map,List.all_eq_true];intro l _;rfl
theorem yZ {ls ms:List (List Nat)}{us ws:List Value}(r:bT (ls.map T) us)(r':bT (ms.map T) ws){A:Around}{s:Shared}{j:Nat}{u w:Value}(hu:us[j]?=some u)(hw:ws[j]?=some w):SeqAt.EqAt A s u w (decide (ls[j]?=ms[j]?)):=by
 have h1:j<ls.length:=by have:=r.length;rw [List.length_map] at this;rw [this];exact (List.getElem?_eq_some_iff.mp hu).1
 have h2:j<ms.length:=by have:=r'.length;rw [List.length_map] at this;rw [this];exact (List.getElem?_eq_some_iff.mp hw).1
 obtain ⟨u',e1,q1⟩:=r.get (i:=j) (x:=T ls[j]) (by rw [List.getElem?_map,List.getElem?_eq_getElem h1];rfl);obtain ⟨w',e2,q2⟩:=r'.get (i:=j) (x:=T ms[j]) (by rw [List.getElem?_map,List.getElem?_eq_getElem h2];rfl);rw [hu] at e1;cases e1;rw [hw] at e2;cases e2;have e:=Hw (A:=A) (s:=s) q1 q2 rfl rfl;have ee:eqV (T ls[j]) (T ms[j])=decide (ls[j]?=ms[j]?):=by
  show (tx ls[j]==tx ms[j])=_;rw [Bool.eq_iff_iff,beq_iff_eq,decide_eq_true_iff,List.getElem?_eq_getElem h1,List.getElem?_eq_getElem h2];exact ⟨fun h=>by rw [fG h],fun h=>by rw [Option.some.inj h]⟩
 rw [ee] at e;exact e
theorem lZ {ls ms:List (List Nat)}(h:ls.length=ms.length):(List.range ls.length).all (fun j=>decide (ls[j]?=ms[j]?))=decide (ls=ms):=by
 rw [Bool.eq_iff_iff,List.all_eq_true,decide_eq_true_iff];constructor
 ·intro g
  apply List.ext_getElem?;intro i;by_cases hi:i<ls.length
  ·exact of_decide_eq_true (g i (List.mem_range.mpr hi))
  ·rw [List.getElem?_eq_none (by omega),List.getElem?_eq_none (by omega)]
 ·intro g j _
  rw [g];exact decide_eq_true rfl
theorem Hf (hu:X.A.units<cLine):OpR X (compareOp .Eq) (fun x y H Q=>∃ (p b:Addr) (ls ms:List (List Nat)),x = .ref p∧y = .ref b∧SqL X.K H p (ls.map T)∧SqL X.K H b (ms.map T)∧Q (.bl (decide (ls=ms))) H):=by
 intro pins s σ H x y v u Q I rx ry h;obtain ⟨p,b,ls,ms,rfl,rfl,h1,h2,q⟩:=h;cases rx;cases ry;obtain ⟨its,r,pl,_⟩:=I.list h1;obtain ⟨its2,r2,pl2,_⟩:=I.list h2;have l1:=r.length;have l2:=r2.length;rw [List.length_map] at l1 l2;by_cases hl:ls.length=ms.length
 ·refine SeqAt.eq_listAt (e:=fun j=>decide (ls[j]?=ms[j]?)) pl.isList pl2.isList (by rw [List.size_toArray,List.size_toArray];omega) hu (fun j g1 g2=>yZ r r2 (by simp) (by simp)) ?_
  rw [List.size_toArray,<- l1,lZ hl];exact ⟨.bl _,H,I,rfl,q⟩
 ·refine SeqAt.eq_list_lengthsAt pl.isList pl2.isList (by rw [List.size_toArray,List.size_toArray,bne_iff_ne];omega) hu ?_
  have e:decide (ls=ms)=false:=decide_eq_false fun z=>hl (by rw [z])
  rw [e] at q;exact ⟨.bl _,H,I,rfl,q⟩
end
set_option genInjectivity false in
structure Fly (P:Program)(w:World)(outer:List Env)(H:Hp)(s:Shared)(a:Addr)(cls:Value)(H':Hp)(s':Shared):Prop where
 os:s'.os=s.os
 bare:AllBare s'.gens
 ex:∃ (B:Heap) (t:Addr),Heap.FlyingW B outer a cls (.ref t) s'.heap∧HOk P w H' B∧(∀ b o,s.heap.get? b=some o->H b=none->b∉frs outer->B.get? b=some o) ∧
  ∀ b o,s.heap.get? b=some o->b∉frs outer->∃ o',B.get? b=some o'
 slot:∀ b o,s.heap.get? b=some o->H b=none->b∈frs outer->∃ sl,s'.heap.get? b=some { o with slots:=sl }
 free:∀ b o,s.heap.get? b=some o->H b=none->H' b=none
 tups:∀ b xs,H b=some (.tup xs)->H' b=some (.tup xs)
 frzs:∀ b o u,H b=some (.frz o u)->H' b=some (.frz o u)
 tbls:∀ b ps,H b=some (.tbl ps)->∃ more,H' b=some (.tbl (ps++more))
def CX1 (P:Program)(w:World):CXT:=fun outer H s E e s'=>∃ a cls H',e = .ref a∧Fly P w outer H s a cls H' s'∧E cls none H'
section
variable {X:Cx}{pins:List (Addr×Obj)}{σ:St}{H H':Hp}{s s':Shared}{a:Addr}{cls:Value}{E:Value->Shared->Prop}
set_option genInjectivity false in
structure Own (X:Cx):Prop where
 stk:X.stack=X.env::X.outer
 fr:X.env.frame=some X.env.locals
 ex:X.ex=[]
theorem Own.frs (O:Own X){b:Addr}:b∈frs X.stack↔b=X.env.locals∨b∈frs X.outer:=by
 unfold L2.frs;rw [O.stk,List.filterMap_cons,O.fr];exact List.mem_cons
theorem Inv.oldNe (I:Inv X pins σ H s){b:Addr}{o:Obj}(e:X.s₀.heap.get? b=some o):b≠X.env.locals:=Nat.ne_of_lt (Nat.lt_of_lt_of_le (Heap.lt_size e) I.ok.above)
theorem Inv.hidHok (I:Inv X pins σ H s):HOk X.prog X.w H (PySem.W.hideAll s.heap (L2.frs X.stack)):=fun b u e =>
 (I.hok b u e).stay (fun c v hc q=>PySem.W.hideAll_get _ q fun hm=>by
  have n:=I.stkFree c hm;rcases hc with z | z
  ·rw [z,e] at n
   cases n
  ·rw [z] at n
   cases n) (fun _ q=>q) fun _ _ q=>q
theorem Fly.raised {args:List Value}{h:Heap}(I:Inv X pins σ H s)(O:Own X)(hx:Heap.MadeExcOf s.heap h a cls args) :
  wpAny (model X.prog X.w) X.A (leaving X.env (.ref a)) (fun _ s''=>Fly X.prog X.w X.outer X.H₀ X.s₀ a cls H s'') E { s with heap:=h }:=by
 have hst:=I.stack;have hin:∀ env∈X.stack,∀ b,env.frame=some b->b∈L2.frs X.stack:=fun env he b hb=>List.mem_filterMap.mpr ⟨env,he,hb⟩
 have hl:=PySem.W.funFrames_hide hst hin;rw [O.stk] at hl;have hfr:=I.ok.frames;rw [O.stk] at hfr;have noEx:∀ b,b∉X.ex:=fun b z=>by
  rw [O.ex] at z;cases z
 refine wpAny_leaves_madeW (s:={ s with heap:=h }) hfr O.fr (fun b o q=>PySem.W.of_hideAll _ q) hl hx fun h' t x1 x2 x3 x4=>?_
 have notIn:∀ b o,X.s₀.heap.get? b=some o->b∉L2.frs X.outer->b∉L2.frs (X.env::X.outer):=fun b o e nb z=>by
  rw [<- O.stk] at z;rcases O.frs.mp z with q | q
  ·exact I.oldNe e q
  ·exact nb q
 have hokB:=I.hidHok;rw [O.stk] at hokB;refine ⟨I.os,I.bare,⟨_,t,x1,hokB,fun b o e n nb=>?_,fun b o e nb=>?_⟩,fun b o e n hb=>?_,fun b o e n=>I.base.free b o e n (noEx b),I.base.tups,I.base.frzs,I.base.tbls⟩
 ·exact PySem.W.hideAll_get _ (I.base.keep b o e n nb (noEx b)) (notIn b o e nb)
 ·obtain ⟨o',e'⟩:=I.base.there b o e (noEx b)
  exact ⟨o',PySem.W.hideAll_get _ e' (notIn b o e nb)⟩
 ·obtain ⟨sl,e1⟩:=I.base.slot b o e n hb (noEx b)
  obtain ⟨_,o2,e2,hd⟩:=I.funs.mem hb;rw [e1] at e2;cases e2;obtain ⟨sl2,e3⟩:=x4 b _ (hx.keeps b _ e1) hd;exact ⟨sl2,e3⟩
theorem Fly.on (I:Inv X pins σ H s)(O:Own X)(Y:Fly X.prog X.w X.stack H s a cls H' s') :
  wpAny (model X.prog X.w) X.A (leaving X.env (.ref a)) (fun _ s''=>Fly X.prog X.w X.outer X.H₀ X.s₀ a cls H' s'') E s':=by
 obtain ⟨B,t,hfl,hokB,kp,th⟩:=Y.ex;have hfr:=I.ok.frames;rw [O.stk] at hfr hfl;have noEx:∀ b,b∉X.ex:=fun b z=>by
  rw [O.ex] at z;cases z
 have notIn:∀ b o,X.s₀.heap.get? b=some o->b∉L2.frs X.outer->b∉L2.frs X.stack:=fun b o e nb z=>by
  rcases O.frs.mp z with q | q
  ·exact I.oldNe e q
  ·exact nb q
 refine wpAny_leaves_onW hfr O.fr hfl fun h' x1 x2=>?_
 refine ⟨Y.os.trans I.os,Y.bare,⟨B,t,x1,hokB,fun b o e n nb=>kp b o (I.base.keep b o e n nb (noEx b)) (I.base.free b o e n (noEx b)) (notIn b o e nb),fun b o e nb=>?_⟩,fun b o e n hb=>?_,fun b o e n=>?_,
  fun b xs q=>Y.tups b xs (I.base.tups b xs q),fun b o u q=>Y.frzs b o u (I.base.frzs b o u q),fun b ps q=>?_⟩
 ·obtain ⟨o',e'⟩:=I.base.there b o e (noEx b)
  exact th b o' e' (notIn b o e nb)
 ·obtain ⟨sl,e1⟩:=I.base.slot b o e n hb (noEx b)
  obtain ⟨_,o2,e2,hd⟩:=I.funs.mem hb;rw [e1] at e2;cases e2;obtain ⟨sl2,e3⟩:=Y.slot b _ e1 (I.base.free b o e n (noEx b)) (O.frs.mpr (.inr hb));obtain ⟨sl3,e4⟩:=x2 b _ e3 hd;exact ⟨sl3,e4⟩
 ·obtain ⟨o',e'⟩:=I.base.there b o e (noEx b)
  exact Y.free b o' e' (I.base.free b o e n (noEx b))
 ·obtain ⟨m1,e1⟩:=I.base.tbls b ps q
  obtain ⟨m2,e2⟩:=Y.tbls b _ e1;exact ⟨m1++m2,by rw [e2,Array.append_assoc]⟩
end
abbrev yP:List Value:=[.type "ValueError",.type "Exception",.type "BaseException",.type "object"]
set_option genInjectivity false in
structure Exc (K:PySem.W.Frag)(mg:Str->Option Value)(x:Str)(C:Addr):Prop where
 mg:mg x=some (.ref C)
 is:PySem.W.excIn K C yP "ValueError.__new__" = true
theorem Exc.own {K:PySem.W.Frag}{mg:Str->Option Value}{x:Str}{C:Addr}{h:Heap}(c:Exc K mg x C)(X:K.In h):OwnCls x C yP "ValueError.__new__" mg h:=by
 refine ⟨c.mg,?_⟩;have q:=c.is;unfold PySem.W.excIn at q;split at q
 ·rename_i dd cd sl ho
  split at q
  ·rename_i C' bm k0 k1 k2 k3 n k5 hm hs
   simp only [beq_iff_eq,Bool.not_eq_true',Bool.and_eq_true] at q;obtain ⟨⟨⟨⟨⟨g1,g2⟩,g3⟩,g4⟩,g5⟩,g6⟩:=q;subst g1 g2;obtain ⟨nm,bs,mro,ns,qn,hd,sn,sub,ab,col,del⟩:=cd;have hsl:sl = #[k0,k1,k2,k3,some (.builtin "ValueError.__new__"),k5]:=by
    cases sl with
    | mk l =>
     have hs':l=_:=hs;rw [hs']
   have hm':mro=_:=hm;have g3':del=false:=g3;subst hsl hm' g3';refine ⟨bm,ns,nm,qn,bs,hd,sn,sub,ab,col,dd,k0,k1,k2,k3,k5,h.nsMap ns,X _ _ ho,?_,?_,?_⟩
   ·exact .of_isNs (PySem.W.isNs_of_in X g5)
   ·exact PySem.W.nsMap_none_of_in X g5 g6
   ·exact PySem.W.tail_of_in X g4
  ·cases q
 ·cases q
def Lp (E:Value->Hp->Prop)(C:Addr)(t:TA):TS:=fun _ σ H=>t σ H fun vs H1=>vs.length<=sizeLine∧E (.ref C) H1
theorem eM {x:Str}{C:Addr}{e₀:Expr}{rest:List Expr}{np cpos pos:Pos}{t:TA}{E:Value->Hp->Prop}(c:Exc X.K X.mg x C)(hc:X.calm=true)
  (hE:∀ (pins:List (Addr×Obj)) (σ:St) (H:Hp) (s:Shared) (h:Heap) (a:Addr) (args:List Value),Inv X pins σ H s->Heap.MadeExcOf s.heap h a (.ref C) args->E (.ref C) H->X.xe (.ref a) { s with heap:=h })
  (ha:PA X (e₀::rest) t) (hg:Gl X x:=by rfl) (hd:(x==("__debug__" : Str))=false:=by decide)
  (he:starEach (e₀::rest) X.env=(false,eval e₀ X.env)::starEach rest X.env:=by rfl) (hpl:(backTo cpos (starEach rest X.env)).any (·.1)=false:=by rfl) :
  PS X (.Raise (some (.Call (.Name x np) (e₀::rest) [] cpos)) none pos) (Lp E C t):=by
 intro pins s σ H D I h;have O:=c.own I.mod.kin;obtain ⟨tl,N,nm,q,bs,hdct,sn,sub,ab,col,dd,k0,k1,k2,k3,k5,mN,hC,hN,hni,T⟩:=O.obj;refine wpAny_Raise_call_subT (C:=C) (nm:=nm) (q:=q) (N:=N) (bs:=bs) (bm:=tl) (hdct:=hdct) (sn:=sn) (sub:=sub) (ab:=ab) (col:=col) (dd:=dd) (k0:=k0) (k1:=k1) (k2:=k2) (k3:=k3) (k5:=k5) PySem.F.excBase_ValueError (mN:=mN)
  (T.hasType (by decide +kernel)) (I.ok.hd hc) (by rw [he];show (false||(backTo cpos (starEach rest X.env)).any (·.1))=false;rw [hpl];rfl) hni (oT I hg c.mg ⟨rfl,?_⟩ hd)
 have hA:=ha cpos pins s σ H _ I h;rw [he] at hA ⊢;refine Calls.evalArgs_plain (thn hA fun us s2 ⟨vs,H2,I2,r2,hz,q2⟩=>?_);exact ⟨rfl,by rw [<- r2.length];exact hz,I2.bk _ _ hC,hN.keeps I2.bk,T.keeps I2.bk,fun h' e hx=>hE pins σ H2 s2 h' e us I2 hx q2⟩
section
variable {P:Program}{w:World}{K:PySem.W.Frag}{mg:Str->Option Value}{base:Heap}{N:List Str}{qual:Str}{scope:Scope}{f:Addr}{cdv:Value}{A:Around}{outer:List Env}{s:Shared}{H:Hp}{E:XK}
theorem Oe {CX:CXT}:Own (nV CX P w K mg base N qual scope f cdv A outer s H E):=⟨rfl,rfl,rfl⟩
theorem jL:jJ (CX1 P w) (nV (CX1 P w) P w K mg base N qual scope f cdv A outer s H E) E:=fun pins σ H1 s1 e s' I h=>by
 obtain ⟨a,cls,H',rfl,Y,q⟩:=h;exact thn (Fly.on I Oe Y) fun _ s'' Z=>⟨a,cls,H',rfl,Z,q⟩
theorem gN {C:Addr}{pins:List (Addr×Obj)}{σ:St}{H1:Hp}{s1:Shared}{h:Heap}{a:Addr}{args:List Value}(I:Inv (nV (CX1 P w) P w K mg base N qual scope f cdv A outer s H E) pins σ H1 s1)(hx:Heap.MadeExcOf s1.heap h a (.ref C) args)(q:E (.ref C) none H1) :
 (nV (CX1 P w) P w K mg base N qual scope f cdv A outer s H E).xe (.ref a) { s1 with heap:=h }:=thn (Fly.raised I Oe hx) fun _ s'' Z=>⟨a,.ref C,H1,rfl,Z,q⟩
theorem bL {X:Cx}:jJ (CX1 P w) X E0:=fun _ _ _ _ _ _ _ h=>by
 obtain ⟨_,_,_,_,_,q⟩:=h;exact q.elim
theorem Fun.okX {x qual:Str}{st:Stmt}{f:Addr}{fd:FuncData}{N ps:List Str}{k:Nat}{sp:Sp}(F:Fun K x qual st f fd)(S:aX N ps (aE st))(len:∀ vs H Q E,sp vs H Q E->vs.length=ps.length)
  (hbody:∀ (cdv:Value) (A:Around) (outer:List Env) (s:Shared) (H:Hp) (vs:List V) (Q:VK) (E:XK),gD k (A.deeper (envOfC qual (aE st) s.heap.objs.size f cdv))->sp vs H Q E ->
   ∃ t,PSs (nV (CX1 P w) P w K mg base N qual (aE st) f cdv A outer s H E) (aU st) t∧t { nx:=fun _ H'=>Q .non H',rt:=Q } (lJ N vs) H):cO P w K mg base (CX1 P w) (k+1) f fd ps sp:=by
 obtain ⟨oc,od,kV,doc,pm,an,cdv,ct,osl,rfl,lk,hcd⟩:=F.ex;exact Kj lk hcd S len fun A outer s H vs Q E hr hsp=>hbody cdv A outer s H vs Q E hr hsp
end
def XP (X:Cx)(pins:List (Addr×Obj))(R:St->Value->Hp->Prop)(e:Value)(s':Shared):Prop :=
 ∃ a cls σ' H s1 H',e = .ref a∧Inv X pins σ' H s1∧Fly X.prog X.w X.stack H s1 a cls H' s'∧R σ' cls H'
abbrev TTy:=kF->(St->Value->Hp->Prop)->St->Hp->Prop
def PTy (X:Cx)(st:List Stmt)(t:TTy):Prop :=
 ∀ (pins:List (Addr×Obj)) (s:Shared) (σ:St) (H:Hp) (D:kF) (R:St->Value->Hp->Prop),Inv X pins σ H s->t D R σ H->wpAny (model X.prog X.w) X.A (execs st X.env) (SP X pins D) (XP X pins R) s
section
variable {X:Cx}
abbrev TH:=kF->St->Value->Hp->Prop
def PH (X:Cx)(hs:List ExceptHandler)(t:TH):Prop :=
 ∀ (pins:List (Addr×Obj)) (σ:St) (H:Hp) (s:Shared) (a:Addr) (cls:Value) (H':Hp) (s':Shared) (D:kF),Inv X pins σ H s->Fly X.prog X.w X.stack H s a cls H' s'->t D σ cls H' ->
  wpAny (model X.prog X.w) X.A (handleBy (.ref a) X.env hs) (SP X pins D) X.xe s'
end
namespace RV
section
variable {prog:Program}{w:World}{A:Around}{E:Value->Shared->Prop}{s:Shared}
end
end RV
section
variable {X:Cx}
theorem sB:∀ (x:List Nat) (ls:List (List Nat)),risingS (tx x) (ls.map tx)=true->(∀ y∈ls,¬ y<x)∧ls.Pairwise (fun a b=>¬ b<a)
 | x,[],_=>⟨fun _ h=>(by cases h),.nil⟩
 | x,y::ls,h=>by
  have h':(!ltCps (tx y).cps.toList (tx x).cps.toList&&risingS (tx y) (ls.map tx))=true:=h;rw [Bool.and_eq_true,dH,dH,ltCps_eq] at h';obtain ⟨a,b⟩:=sB y ls h'.2;have h1:¬ y<x:=by simpa using h'.1
  refine ⟨fun z hz=>?_,List.pairwise_cons.mpr ⟨a,b⟩⟩;rcases List.mem_cons.mp hz with rfl | hz
  ·exact h1
  ·exact Wd.Qq h1 (a z hz)
theorem sA:∀ (ls:List (List Nat)),sortedS (ls.map tx)=true->ls.Pairwise (fun a b=>¬ b<a)
 | [],_=>.nil
 | x::ls,h=>List.pairwise_cons.mpr (sB x ls h)
theorem mU:∀ {us:List Value} {ss:List Str},StrsAre us ss->bT ((ss.map fun x=>x.cps.toList).map T) us
 | _,_,.nil=>.nil
 | _,_,.cons x t h=>.cons ⟨t,by show Value.str x t=Value.str (tx x.cps.toList) t;rw [iN]⟩ (mU h)
theorem lM:eI X (.builtin "sorted") (fun xs H Q=>∃ (p:Addr) (ls:List (List Nat)),xs=[.ref p]∧SqL X.K H p (ls.map T)∧ls.length<64∧∀ (ms:List (List Nat)) (D:Addr),H D=none->ms.Perm ls->ms.Pairwise (fun a b=>¬ b<a)->Q (.ref D) (upd H D (.lst (ms.map T)))):=by
 intro pins s σ H xs us Q I r h;obtain ⟨p,ls,rfl,hq,h64,q⟩:=h;obtain ⟨u,rfl,ru⟩:=fU r;cases ru;obtain ⟨its,rv,pl,hz⟩:=I.list hq;have hlen:=rv.length;rw [List.length_map] at hlen;refine sorted_strs pl.isList (sS rv) (by omega) fun out ss' a1 a2 a3=>?_
 obtain ⟨e,he⟩:=sortedAll_at s.heap its out;have em:(ss'.map fun x=>x.cps.toList).map tx=ss':=by
  rw [List.map_map]
  conv=>rhs;rw [<- List.map_id ss']
  exact List.map_congr_left fun x _=>iN x
 have hp:(ss'.map fun x=>x.cps.toList).Perm ls:=by
  have z:=a2.map fun x=>x.cps.toList
  have e2:(ls.map tx).map (fun x=>x.cps.toList)=ls:=by
   rw [List.map_map]
   conv=>rhs;rw [<- List.map_id ls]
   exact List.map_congr_left fun x _=>dH x
  rw [e2] at z;exact z
 have hpl:=hp.length_eq;refine ⟨.ref _,_,I.laid (t':=s.toks) (fun _ _=>sortedAll_old) (Nat.le_succ _) (o:=.lst ((ss'.map fun x=>x.cps.toList).map T)) ⟨by rw [List.length_map,hpl];rw [List.length_map] at hz;exact hz,out.toList,e,mU a1,by simpa using he⟩,rfl,q _ _ (I.hok.fresh (Nat.le_succ _)) hp (sA _ (by rw [em];exact a3))⟩
theorem pG (hu:X.A.units<cLine):OpR X (compareOp .NotEq) (fun x y H Q=>∃ (p b:Addr) (ls ms:List (List Nat)),x = .ref p∧y = .ref b∧SqL X.K H p (ls.map T)∧SqL X.K H b (ms.map T)∧Q (.bl (!decide (ls=ms))) H):=by
 intro pins s σ H x y v u Q I rx ry h;obtain ⟨p,b,ls,ms,rfl,rfl,h1,h2,q⟩:=h;cases rx;cases ry;obtain ⟨its,r,pl,_⟩:=I.list h1;obtain ⟨its2,r2,pl2,_⟩:=I.list h2;have l1:=r.length;have l2:=r2.length;rw [List.length_map] at l1 l2;by_cases hl:ls.length=ms.length
 ·refine SeqAt.RcNeAt.lists (e:=fun j=>decide (ls[j]?=ms[j]?)) pl.isList pl2.isList (by rw [List.size_toArray,List.size_toArray];omega) hu (fun j g1 g2=>yZ r r2 (by simp) (by simp)) _ _ _ _ ?_
  rw [List.size_toArray,<- l1,lZ hl];exact ⟨.bl _,H,I,rfl,q⟩
 ·refine SeqAt.RcNeAt.lists_lengths pl.isList pl2.isList (by rw [List.size_toArray,List.size_toArray,bne_iff_ne];omega) hu _ _ _ _ ?_
  have e:decide (ls=ms)=false:=decide_eq_false fun z=>hl (by rw [z])
  rw [e] at q;exact ⟨.bl _,H,I,rfl,q⟩
end
def nub:List (List Nat)->List (List Nat)->List (List Nat)
 | acc,[]=>acc
 | acc,l::ls=>if l∈acc then nub acc ls else nub (acc++[l]) ls
def fI (ls:List (List Nat)):Nat->List (List Nat)
 | 0=>[]
 | i+1=>if ls.getD i []∈fI ls i then fI ls i else fI ls i++[ls.getD i []]
theorem jU (ls:List (List Nat)):∀ i,(fI ls i).length<=i
 | 0=>Nat.le_refl _
 | i+1=>by
  have h:=jU ls i;rw [fI];split
  ·omega
  ·rw [List.length_append,List.length_singleton]
   omega
theorem nK (ls:List (List Nat)):∀ i,(fI ls i).Nodup
 | 0=>List.nodup_nil
 | i+1=>by
  have h:=nK ls i;rw [fI];split
  ·exact h
  ·rename_i hn
   refine List.nodup_append.mpr ⟨h,by simp,fun a ha b hb e=>?_⟩;have hb':b=ls.getD i []:=by simpa using hb
   rw [e,hb'] at ha;exact hn ha
theorem mF (ls:List (List Nat))(x:List Nat):∀ i,i<=ls.length->(x∈fI ls i↔x∈ls.take i)
 | 0,_=>by simp [fI]
 | i+1,hi=>by
  have h:=mF ls x i (by omega);have e:ls.take (i+1)=ls.take i++[ls.getD i []]:=by
   rw [List.take_add_one,List.getD_eq_getElem?_getD,List.getElem?_eq_getElem (by omega)];rfl
  rw [e,List.mem_append,fI];split
  ·rename_i hm
   rw [h];constructor
   ·exact .inl
   ·rintro (q | q)
    ·exact q
    ·have q':x=ls.getD i []:=by simpa using q
     rw [q',<- mF ls _ i (by omega)];exact hm
  ·rw [List.mem_append,h]
def uniq (ls:List (List Nat)):List (List Nat):=fI ls ls.length
theorem kQ (ls:List (List Nat)):(uniq ls).Nodup:=nK ls _
theorem gE (ls:List (List Nat))(x:List Nat):x∈uniq ls↔x∈ls:=by
 rw [uniq,mF ls x _ (Nat.le_refl _),List.take_length]
namespace SE
section
variable {prog:Program}{w:World}{A:Around}{R:Result->Shared->Prop}{J:Addr}{fp wr:List Addr}{G:Array GenState->Array GenState->Prop}{n:Nat}{P:Nat->Value->Prop}{St:Nat->Shared->Prop}
abbrev Has (prog:Program)(w:World)(h:Heap)(D:Addr)(ms:List (List Nat)):Prop:=h.SetOf (PySem.strKind prog w) D (fun x=>decide (x.cps.toList∈ms)) ms.length
theorem Has.at {h h':Heap}{D:Addr}{ms:List (List Nat)}(x:Has prog w h D ms)(k:∀ o,h.get? D=some o->h'.get? D=some o):Has prog w h' D ms:=by
 obtain ⟨o,es,ep,tb,ho,r⟩:=x;exact ⟨o,es,ep,tb,k o ho,r⟩
theorem loop (W:WalksS prog w A.in1 J fp wr G n P St){D:Addr}(hD:D∉fp)(ls:List (List Nat))(hv:∀ i v,P i v->∃ t,v=Value.str (tx (ls.getD i [])) t)(hn:n+1<scanBound) :
  ∀ (k i:Nat) (s:Shared),n-i=k->i<=n->St i s->Has prog w s.heap D (fI ls i) ->
   (∀ s',Moved (D::wr) G s s'->Has prog w s'.heap D (fI ls n)->R (.ok (.ret .none)) s')->codeAny (model prog w) A (.builtin "set.update.loop" ⟨[.ref D,.ref J],[]⟩) R s:=by
 have hDw:D∉wr:=fun z=>hD (W.sub _ z)
 have up:∀ b∈wr,b∈D::wr:=fun b hb=>.tail _ hb
 intro k
 induction k with
 | zero =>
  intro i s hk hi st hs hR;obtain rfl:i=n:=by omega
  refine codeAny_builtin PyProof.Rows.F.entry_set_update_loop ?_;rw [Around.under_plainId PyProof.Rows.F.plain_set_update_loop];refine wpAny_bind (m:=pyNext (.ref J)) (W.done s _ _ st fun s2 mv=>?_);exact (show wpAny _ A.in1 (ret Value.none) _ _ s2 from wpAny_pure (hR s2 (mv.mono up) (hs.at fun o e=>mv.heap D o hDw e)))
 | succ k ih =>
  intro i s hk hi st hs hR;have hlt:i<n:=by omega
  refine codeAny_builtin PyProof.Rows.F.entry_set_update_loop ?_;rw [Around.under_plainId PyProof.Rows.F.plain_set_update_loop];refine wpAny_bind (m:=pyNext (.ref J)) (W.item i s _ _ hlt st fun v s2 pv st2 mv=>?_);obtain ⟨t,rfl⟩:=hv i v pv;have hs2:=hs.at fun o e=>mv.heap D o hDw e
  refine wpAny_bind (m:=holding [Value.str (tx (ls.getD i [])) t] (setAdd D (.str (tx (ls.getD i [])) t))) (wpAny_holding ?_);unfold setAdd;refine wpAny_holding (wpAny_bind ((PySem.strKind prog w).pyHash (k:=tx (ls.getD i [])) (strKind_is _ _ _ _) ?_));have hl:=jU ls i;refine wpAny_setAddHashed_of (knd:=PySem.strKind prog w) (s:={ s2 with toks:=s2.toks+1 }) (strKind_is _ _ _ _) rfl hs2 (by omega) fun h3 sb x3=>?_
  have x4:Has prog w h3 D (fI ls (i+1)):=by
   refine PyProof.Rows.SetOf_congr x3 (fun y=>?_) ?_
   ·rw [fI]
    split
    ·rename_i hm
     rw [Bool.eq_iff_iff,Bool.or_eq_true,decide_eq_true_iff,decide_eq_true_iff];constructor
     ·rintro (q | q)
      ·exact q
      ·rw [q,dH]
       exact hm
     ·exact .inl
    ·rw [Bool.eq_iff_iff,Bool.or_eq_true,decide_eq_true_iff,decide_eq_true_iff,decide_eq_true_iff,List.mem_append,List.mem_singleton]
     constructor
     ·rintro (q | q)
      ·exact .inl q
      ·right
       rw [q,dH]
     ·rintro (q | q)
      ·exact .inl q
      ·right
       rw [<- q,iN]
   ·rw [dH,fI]
    by_cases hm:ls.getD i []∈fI ls i
    ·rw [if_pos hm,if_pos (decide_eq_true hm)]
    ·rw [if_neg hm,if_neg (by rw [decide_eq_false hm];exact Bool.false_ne_true),List.length_append]
     rfl
  refine wpAny_pure ⟨plainId_quiet PyProof.Rows.F.plain_set_update_loop _,ih (i+1) _ (by omega) hlt (W.frame _ s2 _ _ st2 (Nat.le_succ _) fun b hb o e=>(sb.2 b fun z=>hD (z▸hb)).trans e) x4 fun s5 m5 x5=>?_⟩;refine hR s5 (Moved.trans W.gtrans ((mv.mono up).then_heap (Nat.le_succ _) fun b o hb e=>(sb.2 b fun z=>hb (z▸.head _)).trans e) m5) x5
variable {E:Value->Shared->Prop}{s:Shared}
theorem Im {l:Addr}{its:Array Value}{ls:List (List Nat)}{Q:Value->Shared->Prop}(hh:A.handled=none)(hl:s.heap.IsList l its)(hv:∀ i v,its[i]?=some v->∃ t,v=Value.str (tx (ls.getD i [])) t)(hn:its.size+1<scanBound)
  (h:∀ (h':Heap) (tk:Nat),Has prog w h' s.heap.objs.size (fI ls its.size)->(∀ b o,s.heap.get? b=some o->h'.get? b=some o)->Q (.ref s.heap.objs.size) { s with heap:=h',toks:=tk }) :
  wpAny (model prog w) A (call (.type "set") [.ref l]) Q E s:=by
 obtain ⟨mc,mt,f0⟩:=F.called_set.mro;have f1:=F.called_set.made;have f2:=F.called_set.sub;have f3:=F.called_set.notType;have f4:=F.called_set.canCreate;have f5:=F.typeCall_set_1 (.ref l);refine wpAny_call (codeAny_of_tree (show wpAny _ _ (callAny (.type "set") _) _ _ _ from wpAny_pure ⟨Code.quiet_builtin _ (by decide +kernel),codeAny_builtin F.entry_type_call ?_⟩))
 rw [Around.under_plain (weight_type_call_type "set" [.ref l] []) rfl]
 repeat (any_goals (first | wp_step | assumption))
 refine codeAny_mono (code_set_new_1 (.ref l) (E:=E) (Q₁:=fun ob s1=>∃ b:Bool,ob = .ref s.heap.objs.size∧s1 = { s with heap:=s.heap.push { cls:=.type "set",dict:=none,data:=.set #[] 0 (.fresh 0 0 b) } }) fun b=>⟨b,rfl,rfl⟩) fun r s1 hr=>?_
 cases r with
 | error e=>exact hr
 | ok fl =>
  cases fl with
  | ret ob =>
   obtain ⟨b,rfl,rfl⟩:=hr;generalize hob:({ cls:=.type "set",dict:=none,data:=.set #[] 0 (.fresh 0 0 b) }:Obj)=ob
   have hD:(s.heap.push ob).get? s.heap.objs.size=some ob:=Heap.get?_push_size _ (by rw [<- hob];rfl);have hT:Shared.TypeIs { s with heap:=s.heap.push ob } (.ref s.heap.objs.size) "set" := ⟨_,hD,by rw [<- hob]⟩
   have f6:=F.called_set.init.lookup;have f7:=F.called_set.init.bind (.ref s.heap.objs.size)
   repeat (any_goals (first | wp_step | assumption))
   refine codeAny_mono (codeAny_call_builtin (R:=wants (fun r s2=>r = .none∧∃ h' tk,s2 = { s with heap:=h',toks:=tk }∧Has prog w h' s.heap.objs.size (fI ls its.size)∧∀ b o,s.heap.get? b=some o->h'.get? b=some o) E)
    F.called_set.init.plain F.entry_set_init (check_set_init_1 hT ?_)) fun r2 s2 hr2=>?_
   ·obtain ⟨⟨oc,od,odt,osl⟩,hol,hcl,nl,hdl⟩:=id hl
    simp only at hcl hdl;subst hcl hdl;have hol':(s.heap.push ob).get? l=some { cls:=.type "list",dict:=od,data:=.seq its nl,slots:=osl }:=Heap.get?_push_of_some _ hol
    have f8:=F.sub_list_set;have f9:=F.sub_list_frozenset;have f10:(Value.type "list" == Value.type "dict")=false:=by decide
    have hl1:(s.heap.push ob).IsList l its:=⟨_,hol',rfl,nl,rfl⟩;subst hob;unfold Builtin.«set.__init__» noKeywords Builtin.Frozenset.updateFrom;generalize hPI:pyIter=PI
    wp_walk
    subst hPI;refine wpAny_pyIter_list hl1 ?_;refine wpAny_bind (wpAny_runValue ?_);have hlt:l<s.heap.objs.size:=Heap.lt_size hol;have hh3:A.in1.in1.in1.handled=none:=by simp [hh]
    have hsz:(s.heap.push { cls:=.type "set",dict:=none,data:=.set #[] 0 (.fresh 0 0 b) }).objs.size=s.heap.objs.size+1:=Heap.size_push _ _
    have hne:l≠(s.heap.push { cls:=.type "set",dict:=none,data:=.set #[] 0 (.fresh 0 0 b) }).objs.size:=by rw [hsz];exact Nat.ne_of_lt (Nat.lt_succ_of_lt hlt)
    have hfp:s.heap.objs.size∉[(s.heap.push { cls:=.type "set",dict:=none,data:=.set #[] 0 (.fresh 0 0 b) }).objs.size,l]:=by
     rw [hsz];intro z;rcases List.mem_cons.mp z with e | e
     ·exact Nat.ne_of_lt (Nat.lt_succ_self _) e
     ·exact Nat.ne_of_gt hlt (List.mem_singleton.mp e)
    refine loop ((Walks.list hh3 _ l hne its).toS) (D:=s.heap.objs.size) hfp ls hv hn (its.size-0) 0 _ (by omega) (Nat.zero_le _) ⟨⟨_,Heap.get?_push_size _ rfl,rfl,rfl⟩,hl1.push _⟩ ?_ fun s3 mv x3=>?_
    ·have hg:((s.heap.push { cls:=.type "set",dict:=none,data:=.set #[] 0 (.fresh 0 0 b) }).push { cls:=.type "list_iterator",data:=.fields #[.ref l,.int 0 0] }).get? s.heap.objs.size=some { cls:=.type "set",dict:=none,data:=.set #[] 0 (.fresh 0 0 b) }:=Heap.get?_push_of_some _ hD
     exact PyProof.Rows.SetOf_congr ((PyProof.Rows.setObjOf_fresh (knd:=PySem.strKind prog w) b).setOf hg (by unfold scanBound;omega)) (fun _=>rfl) rfl
    ·obtain ⟨h3,g3,d3,tk3,os3⟩:=s3
     obtain rfl:g3=s.gens:=mv.gens;obtain rfl:d3=s.drawn:=mv.drawn;obtain rfl:os3=s.os:=mv.os;refine wpAny_pure (show wpAny _ _ (ret Value.none) _ _ _ from wpAny_pure ⟨rfl,h3,tk3,rfl,x3,fun c o e=>?_⟩);have hc:=Heap.lt_size e;exact mv.heap c o (show c∉[s.heap.objs.size,(s.heap.push { cls:=.type "set",dict:=none,data:=.set #[] 0 (.fresh 0 0 b) }).objs.size] by
      rw [hsz];intro z;rcases List.mem_cons.mp z with e | e
      ·exact Nat.ne_of_lt hc e
      ·exact Nat.ne_of_lt (Nat.lt_succ_of_lt hc) (List.mem_singleton.mp e)) (Heap.get?_push_of_some _ (Heap.get?_push_of_some _ e))
   ·cases r2 with
    | error e=>exact hr2
    | ok fl2 =>
     cases fl2 with
     | ret r =>
      obtain ⟨rfl,h3,tk,rfl,x3,k3⟩:=hr2
      repeat (any_goals (first | wp_step | assumption))
      exact h _ _ x3 k3
     | _=>exact hr2.elim
  | _=>exact hr.elim
end
end SE
def Gv (P:Program)(w:World)(D:Addr)(ms:List (List Nat)):HO:=.ext fun h=>SE.Has P w h D ms
section
variable {X:Cx}
theorem Fb {ls:List (List Nat)}{us:List Value}(r:bT (ls.map T) us){i:Nat}{v:Value}(h:us[i]?=some v):∃ t,v=Value.str (tx (ls.getD i [])) t:=by
 have hl:=r.length;rw [List.length_map] at hl;have hi:i<ls.length:=by have:=(List.getElem?_eq_some_iff.mp h).1;omega
 obtain ⟨u,h1,h2⟩:=r.get (i:=i) (x:=T ls[i]) (by rw [List.getElem?_map,List.getElem?_eq_getElem hi];rfl);rw [h] at h1;cases h1;rw [List.getD_eq_getElem?_getD,List.getElem?_eq_getElem hi];exact h2
theorem Cy (hc:X.calm=true):eI X (.type "set") (fun xs H Q=>∃ (p:Addr) (ls:List (List Nat)),xs=[.ref p]∧SqL X.K H p (ls.map T)∧ls.length+1<4096∧∀ D,H D=none->Q (.ref D) (upd H D (Gv X.prog X.w D (uniq ls)))):=by
 intro pins s σ H xs us Q I r h;obtain ⟨p,ls,rfl,hq,hz,q⟩:=h;obtain ⟨u,rfl,ru⟩:=fU r;cases ru;obtain ⟨its,rv,pl,_⟩:=I.list hq;have hlen:=rv.length;rw [List.length_map] at hlen;refine SE.Im (I.ok.hd hc) pl.isList (ls:=ls) (fun i v e=>Fb rv (by simpa using e)) (by rw [List.size_toArray];unfold scanBound;omega) fun h' tk x k=>?_
 have e:fI ls its.toArray.size=uniq ls:=by rw [List.size_toArray,<- hlen];rfl
 rw [e] at x;have hf:H s.heap.objs.size=none:=I.hok.fresh (Nat.le_refl _);refine ⟨.ref s.heap.objs.size,_,I.laid (t':=tk) k (Nat.le_refl _) (o:=Gv X.prog X.w s.heap.objs.size (uniq ls)) ?_,rfl,q _ hf⟩;refine ⟨x,?_,fun h1 h2 x1 kk=>x1.at kk⟩;obtain ⟨o,_,_,_,ho,_⟩:=x;exact ⟨o,ho⟩
theorem Df:eI X (.builtin "len") (fun xs H Q=>∃ (D:Addr) (ms:List (List Nat)),xs=[.ref D]∧H D=some (Gv X.prog X.w D ms)∧Q (.int (ms.length:Nat)) H):=by
 intro pins s σ H xs us Q I r h;obtain ⟨D,ms,rfl,hD,q⟩:=h;obtain ⟨u,rfl,ru⟩:=fU r;cases ru;obtain ⟨⟨o,es,ep,tb,ho,hex,hd,_,_,hb,hf,hn⟩,_⟩:=(show cG X.prog X.w H s.heap D (Gv X.prog X.w D ms) from I.hok D _ hD);have hb':es.size<4096:=hb;exact call_len_set ho hex hd hf (by omega) ⟨.int (ms.length:Nat),H,I.tok _,⟨s.toks+1,by rw [<- hn]⟩,q⟩
namespace LM
end LM
theorem zJ (K:PySem.W.Frag)(hK:X.K=K):eI X (.builtin "len") (fun xs H Q=>∃ p ys,xs=[.ref p]∧(SqL K H p ys∨SqT K H p ys)∧Q (.int ys.length) H):=by
 subst hK;exact aY
theorem Ck (K:PySem.W.Frag)(hK:X.K=K):IxR X (Od K):=by
 subst hK;exact dQ
end
def Itx (l:List Nat):It:=⟨fun i _=>i<l.length,fun i H x H'=>H'=H∧∃ c,l[i]?=some c∧x=T [c],fun i _=>l.length<=i⟩
theorem Dd {P:Program}{w:World}{K:PySem.W.Frag}{tg:Expr}{it:Addr}{ty:String}{l:List Nat}{t:Tok}(hty:ty = "str_ascii_iterator" ∨ ty = "str_iterator")
  (W:∀ A:Around,A.handled=none->Walks P w A it [it] [it] (tx l).cps.size (SignAt (tx l)) (fun i h=>h.IsStrIter it ty (tx l) t i)):rX P w K tg (Itx l) [it] it (fun i h=>h.IsStrIter it ty (tx l) t i) where
 mem:=by simp
 obj:=fun i h st b hb=>by
  have e:b=it:=by simpa using hb
  subst e;obtain ⟨o,e,c,d⟩:=st;exact ⟨o,e,fun v z=>by rw [d] at z;cases z⟩
 keep:=fun i h h' st k=>by
  obtain ⟨o,e,r⟩:=st;exact ⟨o,k it (by simp) o e,r⟩
 item:=by
  intro X hP hw hK hc i pins s σ H E I hf st hg;subst hP hw hK;obtain ⟨f0,f1,f2,f3,f4,f5⟩:=hf it (by simp);refine (W X.A (I.ok.hd hc)).item i s _ _ (by have:i<l.length:=hg;simpa [tx] using this) st fun v h' tk hv st' kk=>?_
  obtain ⟨c,u,hcu,rfl⟩:=hv;have I1:Inv X pins σ H { s with heap:=h',toks:=tk }:=I.turned (fun b o hb e=>kk b o (by simpa using hb) e) f0 f1 f3 f4 f5;obtain ⟨o,e,cl,d⟩:=id st';refine ⟨_,rfl,Ab (s:={ s with heap:=h',toks:=tk }) (n:=ty) e cl d (by rcases hty with rfl | rfl <;> decide) ⟨T [c],H,I1,⟨u,rfl⟩,⟨rfl,c,?_,rfl⟩,st',fun b hb=>(hf b hb).1⟩⟩
  simpa [tx] using hcu
 done:=by
  intro X hP hw hK hc i pins s σ H E I hf st hg;subst hP hw hK;obtain ⟨f0,f1,f2,f3,f4,f5⟩:=hf it (by simp);have hn:l.length<=i:=hg;obtain ⟨o,e,cl,d⟩:=id st;rcases hty with rfl | rfl
  ·exact wpAny_pyNext_ascii_end (I.ok.hd hc) st (by simpa [tx] using hn) fun h' eb=>⟨rfl,I.turned (t':=s.toks) (fun b o hb e=>eb b o hb e) f0 f1 f3 f4 f5⟩
  ·exact wpAny_pyNext_wide_end (I.ok.hd hc) st (by simpa [tx] using hn) fun h' eb=>⟨rfl,I.turned (t':=s.toks) (fun b o hb e=>eb b o hb e) f0 f1 f3 f4 f5⟩
 self:=fun A i s Q E st h=>by
  rcases hty with rfl | rfl
  ·exact wpAny_pyIter_striter_ascii st h
  ·exact wpAny_pyIter_striter_wide st h
def Qr (tl:TE):TI:=fun σ H R=>tl σ H fun x H1=>∃ l,x=T l∧R (Itx l) H1
section
variable {X:Cx}{tg:Expr}
theorem yW {e:Expr}{tl:TE}(hl:PE X e tl):PI X tg e (Qr tl):=by
 intro pins s σ H R I h;refine thn (hl pins s σ H _ I h) fun v s1 ⟨x,H1,I1,r1,q1⟩=>?_
 obtain ⟨l,rfl,q⟩:=q1;obtain ⟨t,rfl⟩:=r1;have fin:∀ (ty:String) (o:Obj),(ty = "str_ascii_iterator" ∨ ty = "str_iterator")->(∀ A:Around,A.handled=none->Walks X.prog X.w A s1.heap.objs.size [s1.heap.objs.size] [s1.heap.objs.size] (tx l).cps.size (SignAt (tx l)) (fun i h=>h.IsStrIter s1.heap.objs.size ty (tx l) t i)) ->
   (s1.heap.push o).IsStrIter s1.heap.objs.size ty (tx l) t 0->PIE X pins σ tg R (.ref s1.heap.objs.size) { s1 with heap:=s1.heap.push o }:=fun ty o hty W st=>by
  refine ⟨s1.heap.objs.size,[s1.heap.objs.size],_,_,H1,rfl,I1.kept (t':=s1.toks) fun b o e=>Heap.get?_push_of_some _ e,Dd hty W,st,fun b hb=>?_,q⟩;have e:b=s1.heap.objs.size:=by simpa using hb
  subst e;exact I1.fpOk (Nat.le_refl _) (I1.hok.fresh (Nat.le_refl _))
 cases ha:(tx l).cps.all (· < 128)
 ·exact wpAny_pyIter_wide ha (fin "str_iterator" _ (.inr rfl) (fun A hA=>Walks.strWide hA _ (tx l) t) ⟨_,Heap.get?_push_size _ rfl,rfl,rfl⟩)
 ·exact wpAny_pyIter_ascii ha (fin "str_ascii_iterator" _ (.inl rfl) (fun A hA=>Walks.strAscii hA _ (tx l) t) ⟨_,Heap.get?_push_size _ rfl,rfl,rfl⟩)
end
theorem Fg {l:List Nat}{g:TG}{tb:TS}{D:kF}{σ:St}{H:Hp}(Pv:Nat->St->Hp->Prop)(h0:Pv 0 σ H)
  (hs:∀ i c σ H,l[i]?=some c->Pv i σ H->g (T [c]) σ H fun σ2 H2=>tb { D with nx:=Pv (i+1),ct:=Pv (i+1),bk:=D.nx } σ2 H2) (hd:∀ σ H,Pv l.length σ H->D.nx σ H) :
  ∃ W:Nat->Nat->St->Hp->Prop,(∃ m,W 0 m σ H)∧∀ i m σ H,W i m σ H ->
   ((Itx l).stop i H∧D.nx σ H)∨((Itx l).go i H∧∃ N:St->Hp->Prop,(∀ σ' H',N σ' H'->∃ m',m'<m∧W (i+1) m' σ' H')∧∀ x H',(Itx l).yld i H x H'->g x σ H' fun σ2 H2=>tb { D with nx:=N,ct:=N,bk:=D.nx } σ2 H2):=by
 refine ⟨fun i m σ H=>m=l.length-i∧i<=l.length∧Pv i σ H,⟨l.length,by simp,Nat.zero_le _,h0⟩,?_⟩;rintro i m σ H ⟨rfl,hi,p⟩;by_cases hlt:i<l.length
 ·refine .inr ⟨hlt,Pv (i+1),fun σ' H' p'=>⟨l.length-(i+1),by omega,rfl,hlt,p'⟩,fun x H' y=>?_⟩
  obtain ⟨rfl,c,hc,rfl⟩:=y;exact hs i c σ _ hc p
 ·obtain rfl:i=l.length:=by omega
  exact .inl ⟨Nat.le_refl _,hd σ H p⟩
section
variable {X:Cx}
theorem wB:OpR X (compareOp .NotIn) (fun x y H Q=>∃ c,x=T [c]∧∃ l,y=T l∧Q (.bl (!decide (c∈l))) H):=by
 intro pins s σ H x y v u Q I rx ry h;obtain ⟨c,e1,l,e2,q⟩:=h;exact tZ pins s σ H x y v u Q I rx ry ⟨tx [c],tx l,e1,e2,by rw [show tx [c]=⟨#[c]⟩ from rfl,StrLaws.found_one,dH];exact q⟩
namespace RV
variable {prog:Program}{w:World}{A:Around}{E:Value->Shared->Prop}{s:Shared}
end RV
end
section
variable {P:Program}{w:World}{K:PySem.W.Frag}{mg:Str->Option Value}{base:Heap}
theorem Fun.okN {x qual:Str}{st:Stmt}{f:Addr}{fd:FuncData}{N ps:List Str}{k:Nat}{sp:Sp}(F:Fun K x qual st f fd)(S:aX N ps (aE st))(len:∀ vs H Q E,sp vs H Q E->vs.length=ps.length)
  (hbody:∀ (cdv:Value) (A:Around) (outer:List Env) (s:Shared) (H:Hp) (vs:List V) (Q:VK) (E:XK),gD k (A.deeper (envOfC qual (aE st) s.heap.objs.size f cdv))->sp vs H Q E ->
   ∃ t,PSs (nV (CX1 P w) P w K mg base N qual (aE st) f cdv A outer s H E).nox (aU st) t∧t { nx:=fun _ H'=>Q .non H',rt:=Q } (lJ N vs) H):cO P w K mg base (CX1 P w) (k+1) f fd ps sp:=by
 obtain ⟨oc,od,kV,doc,pm,an,cdv,ct,osl,rfl,lk,hcd⟩:=F.ex;refine Kj lk hcd S len fun A outer s H vs Q E hr hsp=>?_
 obtain ⟨t,h,q⟩:=hbody cdv A outer s H vs Q E hr hsp;exact ⟨t,h.nox,q⟩
end
namespace EX
open PySem.W PySem.Calls PySem.Builtin PySem.Builtin.ObjectAttr PySem.Builtin.Getset_descriptor
variable {prog:Program}{w:World}{A:Around}{E:Value->Shared->Prop}{s:Shared}{K:PySem.W.Frag}{a C:Addr}
end EX
section
variable {X:Cx}
end
section
variable {X:Cx}{es:List Expr}{te:TE}{t:TA}
theorem Kn {c:Const}{j:Nat}{p:Pos}(ha:PE X (.Constant c j p) te)(hr:PA X es t):PA X (.Constant c j p::es) (qK te t):=aA ha hr rfl
theorem wG {x:Str}{p:Pos}(ha:PE X (.Name x p) te)(hr:PA X es t):PA X (.Name x p::es) (qK te t):=aA ha hr rfl
theorem Pl {a b:Expr}{o:Operator}{p:Pos}(ha:PE X (.BinOp a o b p) te)(hr:PA X es t):PA X (.BinOp a o b p::es) (qK te t):=aA ha hr rfl
theorem Oq {as:List Expr}{k}{p:Pos}(ha:PE X (.Tuple as k p) te)(hr:PA X es t):PA X (.Tuple as k p::es) (qK te t):=aA ha hr rfl
def Ei:List ((Int×Nat×Pos)×(Int×Nat×Pos)×Nat×Pos)->List Expr
 | []=>[]
 | ((i,j,p),(i',j',p'),k,q)::r=>.Tuple [.Constant (.int i) j p,.Constant (.int i') j' p'] k q::Ei r
def zO:List (Int×Int)->TA
 | []=>fun _ H Q=>Q [] H
 | (a,b)::r=>fun σ H Q=>∀ t,H t=none->zO r σ (upd H t (.tup [.int a,.int b])) fun vs H1=>Q (.ref t::vs) H1
theorem wE:∀ l:List ((Int×Nat×Pos)×(Int×Nat×Pos)×Nat×Pos),PA X (Ei l) (zO (l.map fun x=>(x.1.1,x.2.1.1)))
 | []=>aD
 | ((i,j,p),(i',j',p'),k,q)::r=>fun pos pins s σ H Q I h=>by
  have h0:PE X (.Tuple [.Constant (.int i) j p,.Constant (.int i') j' p'] k q) (Oa (qK (tC (.int i)) (qK (tC (.int i')) Ol))):=Mt (Kn aG (Kn aG aD));refine Oq (X:=X) h0 (wE r) pos pins s σ H Q I ⟨?_,fun t ht=>h t ht⟩;have hs:sizeLine=16777216:=sizeLine_eq;show 2<=sizeLine;omega
theorem sK:∀ (l:List (Int×Int)) {σ:St} {H:Hp} {Q:List V->Hp->Prop},
  (∀ vs H1,vs.length=l.length->aM H H1->(∀ (j:Nat) (p:Int×Int),l[j]?=some p->∃ t,vs[j]?=some (.ref t)∧H1 t=some (.tup [.int p.1,.int p.2]))->Q vs H1)->zO l σ H Q
 | [],_,H,_,h=>h [] H rfl (aM.refl _) fun j p e=>by cases e
 | (a,b)::r,σ,H,Q,h=>fun t ht=>by
  refine sK r fun vs H1 hl hs hv=>h (.ref t::vs) H1 (by rw [List.length_cons,hl,List.length_cons]) (fun c o e=>hs c o (by rw [aH (aK e ht)];exact e)) fun j p e=>?_
  cases j with
  | zero =>
   have e':(a,b)=p:=by simpa using e
   subst e';exact ⟨t,rfl,hs t _ aC⟩
  | succ j =>
   obtain ⟨t',h1,h2⟩:=hv j p (by simpa using e);exact ⟨t',by simpa using h1,h2⟩
end
section
variable {X:Cx}{tg:Expr}
end
end L2
namespace L2
open PySem
section
variable {X:Cx}{N':List Str}{scope:Scope}{x:Str}{px:Pos}{elt iter cd:Expr}{pos:Pos}{te:TE}{tc:TT}{wi:TI}
theorem Hs (S:cP X.N N' X.env.scope scope x)(hc:X.calm=true)(hi:PI X (.Name x px) iter wi)(ht:∀ cl C s H fp,PT (bY X N' scope cl C s H fp) cd tc)(he:∀ cl C s H fp,PE (bY X N' scope cl C s H fp) elt te)
  (hs:∀ x,foldedSetIterable iter X.env x=pure x:=by intro _;rfl):PE X (.ListComp elt [⟨.Name x px,iter,[cd],0⟩] scope pos) (Ga wi tc te) :=
 xR (at':=fun σ Q=>gZ tc te σ Q) S hc hi (fun cl C s H fp=>Bm (ht cl C s H fp)) he (fun _ _ _ _ h=>h) hs
theorem xT {i:Nat}{y:Str}{py spos:Pos}(S:cP X.N N' X.env.scope scope x)(hc:X.calm=true)(hi:PI X (.Name x px) iter wi)(ht:∀ cl C s H fp,PT (bY X N' scope cl C s H fp) cd tc)(he:∀ cl C s H fp,PE (bY X N' scope cl C s H fp) elt te)
  (hN:X.N.Nodup) (hy:X.N[i]?=some y) (hyl:X.env.scope.names.lookup y=some .local)
  (hsw:swapsWith (.ListComp elt [⟨.Name x px,iter,[cd],0⟩] scope pos) (some (.Name y py)) spos.line X.env=pure true:=by rfl)
  (hs:∀ x,foldedSetIterable iter X.env x=pure x:=by intro _;rfl):PS X (.Assign [.Name y py] (.ListComp elt [⟨.Name x px,iter,[cd],0⟩] scope pos) spos) (Hq (Ga wi tc te) (tG i)) :=
 nL (at':=fun σ Q=>gZ tc te σ Q) S hc hi (fun cl C s H fp=>Bm (ht cl C s H fp)) he (fun _ _ _ _ h=>h) hN hy hyl hsw hs
end
section
variable {X:Cx}
end
theorem nR {α:Type}(p:α->Bool)(l:List α)(i:Nat)(v:α)(h:l[i]?=some v):(l.take (i+1)).filter p=(l.take i).filter p++(if p v then [v] else []):=by
 rw [List.take_add_one,h,List.filter_append];cases hp:p v <;> simp [hp]
theorem oI {α:Type}(p:α->Bool)(l:List α)(i:Nat):((l.take i).filter p).length<=i:=by
 have h1:=List.length_filter_le p (l.take i);rw [List.length_take] at h1;omega
theorem sE (w:List Nat)(k:Nat):gB w none (some (k:Int))=w.take k:=by
 unfold gB;rw [HT.fD,HT.fB,List.drop_zero,Nat.sub_zero];by_cases h:k<=w.length
 ·rw [Nat.min_eq_left h]
 ·rw [Nat.min_eq_right (by omega),List.take_length,List.take_of_length_le (by omega)]
end L2
set_option autoImplicit false
namespace SR
open PySem PyProof.Rows
set_option genInjectivity false in
structure SB (kd:SortKind)(z:Array Keyed)(st:SortSt):Prop where
 prm:(arrOf st).Perm z
 knd:kindOf st=kd
 ffl:failedOf st=none
set_option genInjectivity false in
structure Kp (lo:Nat)(st st':SortSt):Prop where
 low:∀ k,k<lo->(arrOf st')[k]?=(arrOf st)[k]?
 pen:pendingOf st'=pendingOf st
section
variable {prog:Program}{w:World}{A:Around}{E:Value->Shared->Prop}{s:Shared}{z:Array Keyed}{κ:KeyKind}{kd:SortKind}
end
end SR
set_option autoImplicit false
namespace SR
open PySem PyProof.Rows
def Ps:Bool->Keyed->Array Keyed->Nat->Nat->Nat->StateT SortSt Sem (Option Nat):=sortPriv% PySem.Builtin.gallop
def bq (left:Bool)(key:Keyed)(arr:Array Keyed)(base:Nat)(i:Nat):StateT SortSt Sem (Option Bool):=do
 let x <- elem' arr (base+i)
 if left then lt' x key else return (<- lt' key x).map (!·)
section
variable {prog:Program}{w:World}{A:Around}{E:Value->Shared->Prop}{s:Shared}{z:Array Keyed}{κ:KeyKind}{kd:SortKind}
end
end SR
set_option autoImplicit false
namespace SR
open PySem PyProof.Rows
def Hk (κ:KeyKind)(x:Keyed):Prop:=∃ c,κ.keyOf x.1=some c
section
variable {prog:Program}{w:World}{A:Around}{E:Value->Shared->Prop}{s:Shared}{z:Array Keyed}{κ:KeyKind}{kd:SortKind}
end
end SR
set_option autoImplicit false
namespace SR
open PySem PyProof.Rows
section
variable {prog:Program}{w:World}{A:Around}{E:Value->Shared->Prop}{s:Shared}{κ:KeyKind}{kd:SortKind}
end
end SR
set_option autoImplicit false
namespace SR
open PySem PyProof.Rows
def rt (a:Array Keyed)(n:Nat):List Keyed:=(a.toList.take n).reverse
section
variable {prog:Program}{w:World}{A:Around}{E:Value->Shared->Prop}{s:Shared}{κ:KeyKind}{kd:SortKind}
abbrev Pg:=Option (Array Keyed)×Nat×Nat×Array Keyed×Nat×Nat×Nat
def hi3 (a b o:Array Keyed)(i j g p q:Nat):StateT SortSt Sem (ForInStep Pg):=do
 let x <- elem' a (i-1)
 if (i-1==0)=true then pure (ForInStep.done (some (a.extract 0 (i-1)++b.extract 0 j++(o.push x).reverse),i-1,j,o.push x,g,p,q))
 else if (decide (p<7)&&decide (q<7))=true then pure (ForInStep.done (none,i-1,j,o.push x,g,p,q)) else pure (ForInStep.yield (none,i-1,j,o.push x,g,p,q))
def hi2 (a b o:Array Keyed)(i j g p q:Nat):StateT SortSt Sem (ForInStep Pg):=do
 let x <- elem' b j
 if (j==1)=true then pure (ForInStep.done (some (b.extract 0 j++a.extract 0 i++(o.push x).reverse),i,j,o.push x,g,p,q))
 else do
  let u <- elem' a (i-1)
  let z <- Ps true u b 0 j (j-1)
  match z with
  | some y =>
   if j-y>0 then
    if (y==1)=true then pure (ForInStep.done (some (b.extract 0 y++a.extract 0 i++(o.push x++(b.extract y j).reverse).reverse),i,y,o.push x++(b.extract y j).reverse,g,p,j-y))
    else if (y==0)=true then pure (ForInStep.done (some (a.extract 0 i++b.extract 0 y++(o.push x++(b.extract y j).reverse).reverse),i,y,o.push x++(b.extract y j).reverse,g,p,j-y))
    else hi3 a b (o.push x++(b.extract y j).reverse) i y g p (j-y)
   else hi3 a b (o.push x) i j g p (j-y)
  | _=>pure (ForInStep.done (some (a.extract 0 i++b.extract 0 j++(o.push x).reverse),i,j,o.push x,g,p,q))
end
end SR
set_option autoImplicit false
namespace SR
open PySem PyProof.Rows
def sg (xs:Array Keyed)(l n:Nat):List Keyed:=(xs.toList.drop l).take n
section
variable {κ:KeyKind}{kd:SortKind}
end
end SR
set_option autoImplicit false
namespace SR
open PySem PyProof.Rows
section
variable {prog:Program}{w:World}{A:Around}{E:Value->Shared->Prop}{s:Shared}{z:Array Keyed}{κ:KeyKind}{kd:SortKind}
end
end SR
set_option autoImplicit false
namespace SR
open PySem PyProof.Rows
section
variable {κ:KeyKind}{kd:SortKind}
end
section
variable {prog:Program}{w:World}{A:Around}{E:Value->Shared->Prop}{s:Shared}{z:Array Keyed}{κ:KeyKind}{kd:SortKind}
end
end SR
set_option autoImplicit false
namespace SR
open PySem PyProof.Rows PySem.Spec
section
variable {prog:Program}{w:World}{A:Around}{E:Value->Shared->Prop}{s:Shared}
end
end SR
namespace L2
open PySem PyProof.Rows PySem.Spec
section
variable {X:Cx}
theorem nP {x:V}:∀ {xs:List V} {us:List Value},bT xs us->xs.all gY=true->us.countP (eqU x)=xs.countP (fun y=>eqV y x)
 | _,_,.nil,_=>rfl
 | y::xs,u::us,.cons r t,f=>by
  rw [List.all_cons,Bool.and_eq_true] at f;rw [List.countP_cons,List.countP_cons,nP t f.2,yH r f.1]
theorem Ci:MtR X "list.count" (fun x xs H Q=>∃ (p:Addr) (ys:List V) (a:V),x = .ref p∧xs=[a]∧SqL X.K H p ys∧ys.all gY=true∧gY a=true∧Q (.int ((ys.countP (fun y=>eqV y a):Nat):Int)) H):=by
 intro pins s σ H x xs v us Q I rx rs h;obtain ⟨p,ys,a,rfl,rfl,hq,hf,ha,q⟩:=h;cases rx;obtain ⟨u,rfl,ru⟩:=fU rs;obtain ⟨its,r,⟨⟨cls,dd,data,sl⟩,n,ho,hc,hdd,hd⟩,hz⟩:=I.list hq;simp only at hc hd;subst hc hd;refine call_meets PySem.F.slot_list_count ⟨_,ho,rfl⟩ PySem.F.entry_list_count (PySem.F.args_list_count_2 _ _) (SeqAt.list_countAt p its.toArray n dd sl u (eqU a))
  ⟨ho,fun y hy=>iA ru ha r hf y (by simpa using hy),⟨.int ((ys.countP (fun y=>eqV y a):Nat):Int),H,I.tok _,⟨s.toks,by rw [<- nP r hf]⟩,q⟩⟩
theorem Dc (hc:X.calm=true):eI X (.builtin "sum") (fun xs H Q=>∃ (p:Addr) (ns:List Int),xs=[.ref p]∧SqL X.K H p (ns.map V.int)∧Q (.int ns.sum) H):=by
 intro pins s σ H xs us Q I r h;obtain ⟨p,ns,rfl,hq,q⟩:=h;obtain ⟨u,rfl,ru⟩:=fU r;cases ru;obtain ⟨its,rv,pl,_⟩:=I.list hq;have hia:=yM rv;have hnum:=hia.numsOf;obtain ⟨ys,hx⟩:=hia.allInts.items;have hl:=pl.isList;rw [hx] at hl;have e:preSum (numAt ys) ys.size=ns.sum:=by
  rw [preSum_eq,List.take_of_length_le (by simp)];rw [<- hnum,show its=its.toArray.toList from by simp,hx,nums_intItems]
 exact sum_intListG (I.ok.hd hc) hl fun h' tk t' hk=>⟨.int ns.sum,H,I.kept hk,⟨t',by rw [e]⟩,q⟩
theorem tI (K:PySem.W.Frag)(hK:X.K=K):MtR X "list.count" (fun x xs H Q=>∃ (p:Addr) (ys:List V) (a:V),x = .ref p∧xs=[a]∧SqL K H p ys∧ys.all gY=true∧gY a=true∧Q (.int ((ys.countP (fun y=>eqV y a):Nat):Int)) H):=by
 subst hK;exact Ci
theorem Hl (K:PySem.W.Frag)(hK:X.K=K){o e:Expr}{es:List Expr}{to:TE}{t:TA}{name:Str}{apos cpos:Pos}{T id:String}{r:V->List V->Hp->VK->Prop}
  (pa:PlainAttrs T) (slot:Slot T name id) (hty:typeOf (.builtin id)=pure (.type "method_descriptor")) (hm:MtR X id r) (ho:PE X o to) (ha:PA X (e::es) t)
  (b1:attributeBase o name X.env (eval o X.env)=eval o X.env:=by rfl)
  (b2:((backTo cpos (starEach (e::es) X.env)).all (fun x=>!x.1)&&(backToKw cpos (keywordEach [] X.env)).all (fun x=>x.1.isSome)&&decide ((e::es).length+([]:List Keyword).length+(if ([]:List Keyword).isEmpty then 0 else 1)<30))=true:=by rfl)
  (b3:(apos.endLine==cpos.line)=true:=by rfl) (b4:starEach (e::es) X.env=(false,eval e X.env)::starEach es X.env:=by rfl) (b5:(backTo cpos (starEach es X.env)).any (·.1)=false:=by rfl) :
  PE X (.Call (.Attribute o name apos) (e::es) [] cpos) (tBM K T r to t):=by
 subst hK;exact lR pa slot hty hm ho ha b1 b2 b3 b4 b5
end
section
variable (P:Program)(w:World)
end
section
variable {P:Program}{w:World}{H H':Hp}{h h':Heap}{a:Addr}{o:HO}
end
section
variable {P:Program}{w:World}{H:Hp}{h h':Heap}{x e:Addr}{o':HO}
end
section
variable {fs fs' ex ex':List Addr}{H H1 H2:Hp}{h h1 h2 h':Heap}{a x e:Addr}{o:HO}
end
section
variable {X:Cx}{pins:List (Addr×Obj)}{σ:List (Option V)}{H H':Hp}{s:Shared}{h':Heap}
end
section
variable {X:Cx}
variable {a b:Expr}{ta tb:TE}{pos:Pos}
variable {tA tB':TT}{rest:List Expr}
end
section
variable {X:Cx}{pins:List (Addr×Obj)}{σ:St}{H:Hp}{s:Shared}{a:Addr}{xs ys:List V}
end
section
variable {X:Cx}{pins:List (Addr×Obj)}{σ:St}{H:Hp}{s:Shared}{E:Value->Shared->Prop}
end
section
variable {X:Cx}{st:Stmt}{rest:List Stmt}{t u:TS}{e:Expr}{te:TE}{pos:Pos}
end
section
variable {X:Cx}{pos:Pos}
end
section
variable {X:Cx}{tg:Expr}
end
section
variable {X:Cx}{a b c:Expr}{ta tb tc:TE}{pos:Pos}
end
section
variable {prog:Program}{w:World}{A:Around}{E:Value->Shared->Prop}{s:Shared}{K:PySem.W.Frag}{x dx C f:Addr}{mA:Str->Option Value}{name:Str}{v:Value}
end
section
variable {P:Program}{w:World}{H H':Hp}{h h':Heap}{a C dx:Addr}{fs fs':List (Str×V)}
end
section
variable {X:Cx}{pins:List (Addr×Obj)}{σ:St}{H:Hp}{s:Shared}{a C dx:Addr}{fs:List (Str×V)}{f:Str}{v:V}{A:Around}{E:Value->Shared->Prop}
end
section
variable {X:Cx}{o e value:Expr}{f:Str}{pos pos' tpos:Pos}{ta tv:TE}
end
section
variable {X:Cx}{pins:List (Addr×Obj)}{σ:St}{H:Hp}{s:Shared}{A:Around}{E:Value->Shared->Prop}{Q:Value->Shared->Prop}{c:Value}{b:Bool}
end
section
variable {X:Cx}{e:Expr}{es:List Expr}{te:TE}{t:TA}{pos:Pos}
end
section
variable {X:Cx}{pins:List (Addr×Obj)}{σ:St}{H:Hp}{s s':Shared}
end
section
variable {X:Cx}{CX:CXT}{k:Nat}{f C:Addr}{fd:FuncData}{ps:List Str}{sp:Sp}{dvs:List V}{ds:List Value}{E:XK}{x m:Str}{p pos apos:Pos}{e o:Expr}{es:List Expr}{ta:TE}{t:TA}
end
section
variable {X:Cx}{CX:CXT}{k:Nat}{f C:Addr}{fd:FuncData}{ps ks:List Str}{sp:Sp}{E:XK}{x m:Str}{p pos apos kpos:Pos}{e o:Expr}{es:List Expr}{kws:List Keyword}{te ta:TE}{t tk:TA}{nm:Option Str}
variable {g:List Value->List Value->List Value}{gV:List V->List V->List V}
end
section
variable {X:Cx}{x:Str}{p pos:Pos}{e:Expr}{es:List Expr}{t:TA}{id T:String}{r:List V->Hp->VK->Prop}
end
section
variable {κ:Type}[DecidableEq κ]
def fF (kvs:List (κ×V))(k:κ):Option V:=(kvs.find? fun kv=>decide (kv.1=k)).map (·.2)
def cJ (kvs:List (κ×V))(k:κ)(v:V):List (κ×V) :=
 if (kvs.any fun kv=>decide (kv.1=k))=true then kvs.map (fun kv=>if kv.1=k then (kv.1,v) else kv) else kvs++[(k,v)]
theorem fZ {p:κ×V}{r:List (κ×V)}{k:κ}(e:p.1=k):fF (p::r) k=some p.2:=by simp [fF,List.find?_cons,e]
theorem fT {p:κ×V}{r:List (κ×V)}{k:κ}(e:¬ p.1=k):fF (p::r) k=fF r k:=by simp [fF,List.find?_cons,e]
theorem rC (k:κ):∀ kvs:List (κ×V),(kvs.any fun kv=>decide (kv.1=k))=(fF kvs k).isSome
 | []=>rfl
 | p::r=>by
  rw [List.any_cons];by_cases e:p.1=k
  ·simp only [fZ e,decide_eq_true e,Bool.true_or,Option.isSome_some]
  ·rw [fT e,decide_eq_false e,Bool.false_or];exact rC k r
theorem gU (kvs:List (κ×V))(k:κ)(v:V):(cJ kvs k v).length<=kvs.length+1:=by
 unfold cJ;split
 ·rw [List.length_map];omega
 ·rw [List.length_append,List.length_cons,List.length_nil];omega
theorem Ef {kvs:List (κ×V)}{k:κ}(v:V)(h:fF kvs k=none):cJ kvs k v=kvs++[(k,v)]:=by
 unfold cJ;rw [rC,h];exact if_neg (by decide)
theorem iF.isSome_eq {o:Option V}{u:Option Value}(r:iF o u):o.isSome=u.isSome:=by
 cases o with
 | none=>cases u with
  | none=>rfl
  | some _=>exact (show False from r).elim
 | some _=>cases u with
  | none=>exact (show False from r).elim
  | some _=>rfl
theorem iF.getD {o:Option V}{u:Option Value}{d:V}{d':Value}(r:iF o u)(rd:bE d d'):bE (o.getD d) (u.getD d'):=by
 cases o with
 | none=>cases u with
  | none=>exact rd
  | some _=>exact (show False from r).elim
 | some _=>cases u with
  | none=>exact (show False from r).elim
  | some _=>exact r
theorem KV.val {kvs:List (κ×V)}{vs:List (κ×Value)}(r:KV kvs vs)(k:κ):iF (fF kvs k) (valueAt vs k):=by
 unfold KV at r
 induction r with
 | nil=>exact True.intro
 | @cons p q ps qs h t ih =>
  obtain ⟨h1,h2⟩:=h;by_cases e:p.1=k
  ·have e':q.1=k:=h1.symm.trans e
   have b:valueAt (q::qs) k=some q.2:=by simp [valueAt,List.find?_cons,e']
   rw [fZ e,b];exact h2
  ·have e':¬ q.1=k:=fun z=>e (h1.trans z)
   have b:valueAt (q::qs) k=valueAt qs k:=by simp [valueAt,List.find?_cons,e']
   rw [fT e,b];exact ih
theorem KV.any {kvs:List (κ×V)}{vs:List (κ×Value)}(r:KV kvs vs)(k:κ):(kvs.any fun kv=>decide (kv.1=k))=vs.any fun kv=>decide (kv.1=k):=by
 unfold KV at r
 induction r with
 | nil=>rfl
 | cons h t ih=>rw [List.any_cons,List.any_cons,ih,h.1]
theorem KV.repl {kvs:List (κ×V)}{vs:List (κ×Value)}(r:KV kvs vs)(k:κ){y:V}{u:Value}(ry:bE y u) :
  KV (kvs.map fun kv=>if kv.1=k then (kv.1,y) else kv) (vs.map fun kv=>if kv.1=k then (kv.1,u) else kv):=by
 unfold KV at r ⊢
 induction r with
 | nil=>exact .nil
 | @cons p q ps qs h t ih =>
  rw [List.map_cons,List.map_cons];refine .cons ?_ ih;obtain ⟨h1,h2⟩:=h;by_cases e:p.1=k
  ·rw [if_pos e,if_pos (h1.symm.trans e)];exact ⟨h1,ry⟩
  ·rw [if_neg e,if_neg (fun z=>e (h1.trans z))];exact ⟨h1,h2⟩
theorem KV.put {kvs:List (κ×V)}{vs:List (κ×Value)}(r:KV kvs vs)(k:κ){y:V}{u:Value}(ry:bE y u):KV (cJ kvs k y) (stored vs k u):=by
 unfold cJ stored;rw [r.any k];by_cases e:(vs.any fun kv=>decide (kv.1=k))=true
 ·rw [if_pos e,if_pos e];exact r.repl k ry
 ·rw [if_neg e,if_neg e];exact Paired.snoc r ⟨rfl,ry⟩
theorem KV.keys {kvs:List (κ×V)}{vs:List (κ×Value)}(r:KV kvs vs):kvs.map (·.1)=vs.map (·.1):=by
 unfold KV at r
 induction r with
 | nil=>rfl
 | cons h t ih=>rw [List.map_cons,List.map_cons,ih,h.1]
theorem KV.length {kvs:List (κ×V)}{vs:List (κ×Value)}(r:KV kvs vs):kvs.length=vs.length:=Paired.length r
end
theorem nS {P:Program}{w:World}{k:Key}{u:Value}(r:bE (kV k) u):(bH P w).is k u=true:=by
 cases k with
 | inl i=>obtain ⟨t,e⟩:=(show ∃ t,u=Value.int i t from r);subst e;exact xU P w i t
 | inr x=>obtain ⟨t,e⟩:=(show ∃ t,u=Value.str x t from r);subst e;exact xO P w x t
theorem tJ {P:Program}{w:World}:∀ {ks:List Key} {us:List Value},bT (ks.map kV) us->ItemsAre (bH P w) ks us
 | [],_,r=>by rw [List.map_nil] at r;cases r;exact .nil
 | k::ks,_,r=>by
  rw [List.map_cons] at r
  cases r with
  | cons h t=>exact .cons (nS h) (tJ t)
abbrev KT (H:Hp):List (List Key×V)->List (List Key×Addr×Value)->Prop:=Paired fun p q=>p.1=q.1∧H q.2.1=some (.tup (p.1.map kV))∧bE p.2 q.2.2
theorem KT.val {H:Hp}{kvs:List (List Key×V)}{xs:List (List Key×Addr×Value)}(r:KT H kvs xs)(k:List Key):iF (fF kvs k) ((atKey xs k).map (·.2)):=by
 induction r with
 | nil=>exact True.intro
 | @cons p q ps qs h t ih =>
  obtain ⟨h1,_,h2⟩:=h;by_cases e:p.1=k
  ·have e':q.1=k:=h1.symm.trans e
   have b:atKey (q::qs) k=some q.2:=by simp [atKey,List.find?_cons,e']
   rw [fZ e,b];exact h2
  ·have e':¬ q.1=k:=fun z=>e (h1.trans z)
   have b:atKey (q::qs) k=atKey qs k:=by simp [atKey,List.find?_cons,e']
   rw [fT e,b];exact ih
theorem KT.repl {H:Hp}{kvs:List (List Key×V)}{xs:List (List Key×Addr×Value)}(r:KT H kvs xs)(k:List Key){y:V}{u:Value}(ry:bE y u) :
  KT H (kvs.map fun kv=>if kv.1=k then (kv.1,y) else kv) (xs.map (putAt k u)):=by
 induction r with
 | nil=>exact .nil
 | @cons p q ps qs h t ih =>
  rw [List.map_cons,List.map_cons];refine .cons ?_ ih;obtain ⟨h1,h2,h3⟩:=h;unfold putAt;by_cases e:p.1=k
  ·rw [if_pos e,if_pos (h1.symm.trans e)];exact ⟨h1,h2,ry⟩
  ·rw [if_neg e,if_neg (fun z=>e (h1.trans z))];exact ⟨h1,h2,h3⟩
theorem KT.put {H:Hp}{kvs:List (List Key×V)}{xs:List (List Key×Addr×Value)}(r:KT H kvs xs)(k:List Key){b:Addr}{y:V}{u:Value}(hb:H b=some (.tup (k.map kV)))(ry:bE y u) :
  KT H (cJ kvs k y) (storedH xs k b u):=by
 have e:(kvs.any fun kv=>decide (kv.1=k))=(atKey xs k).isSome:=by
  rw [rC,(r.val k).isSome_eq,Option.isSome_map]
 unfold cJ storedH;rw [e];by_cases q:(atKey xs k).isSome=true
 ·rw [if_pos q,if_pos q];exact r.repl k ry
 ·rw [if_neg q,if_neg q];exact Paired.snoc r ⟨rfl,hb,ry⟩
theorem KT.keeps {H H':Hp}{kvs:List (List Key×V)}{xs:List (List Key×Addr×Value)}(r:KT H kvs xs)(ht:∀ b ys,H b=some (.tup ys)->H' b=some (.tup ys)):KT H' kvs xs :=
 Paired.mapP r fun _ _ z=>⟨z.1,ht _ _ z.2.1,z.2.2⟩
section
variable {P:Program}{w:World}{H:Hp}{h:Heap}{a:Addr}
theorem Kv {u:HO}(ok:HOk P w H h)(e:Rd H a u):cG P w H h a u:=e.ok ok
theorem nT {kvs:List (Key×V)}(ok:HOk P w H h)(e:Rd H a (.dK kvs)):kvs.length<=sizeLine∧(a==sysModules)=false∧∃ vs,KV kvs vs∧h.DictOf (bH P w) a vs :=
 show cG P w H h a (.dK kvs) from Kv ok e
theorem qQ {kvs:List (Key×V)}(ok:HOk P w H h)(e:H a=some (.dK kvs)):kvs.length<=sizeLine∧(a==sysModules)=false∧∃ vs,KV kvs vs∧h.DictOf (bH P w) a vs:=nT ok (.inl e)
theorem nF {ks:List Key}(ok:HOk P w H h)(e:H a=some (.tup (ks.map kV))):(tupleKind (bH P w)).is h ks a:=by
 obtain ⟨_,its,r,o,h1,h2,n,h3⟩:=(show cG P w H h a (.tup (ks.map kV)) from ok a _ e);exact ⟨o,its.toArray,n,h1,h2,h3,by simpa using tJ r⟩
theorem pD {kvs:List (List Key×V)}(ok:HOk P w H h)(e:Rd H a (.dT kvs)):kvs.length<=sizeLine∧(a==sysModules)=false ∧
  ∃ xs,KT H kvs xs∧h.DictOfH (tupleKind (bH P w)) a xs:=by
 obtain ⟨z,y,xs,r,o,es,ep,h1,h2,h3,h4,h5⟩:=(show cG P w H h a (.dT kvs) from Kv ok e);refine ⟨z,y,xs,r,o,es,ep,h1,h2,h3,h4,fun x hx=>?_,h5⟩;have all:∀ {l:List (List Key×V)} {m:List (List Key×Addr×Value)},KT H l m->∀ x∈m,(tupleKind (bH P w)).is h x.1 x.2.1:=by
  intro l m q
  induction q with
  | nil=>intro x hx;exact nomatch hx
  | @cons p q ps qs hq t ih =>
   intro x hx;rcases List.mem_cons.mp hx with e | hx
   ·subst e
    exact nF ok (by rw [<- hq.1];exact hq.2.1)
   ·exact ih x hx
 exact all r x hx
theorem Nz {kvs:List (List Key×V)}(ok:HOk P w H h)(e:H a=some (.dT kvs)):kvs.length<=sizeLine∧(a==sysModules)=false ∧
 ∃ xs,KT H kvs xs∧h.DictOfH (tupleKind (bH P w)) a xs:=pD ok (.inl e)
end
def jT (H:Hp)(a:Addr)(y:V)(r:Option V):Prop :=
 (∃ kvs k,Rd H a (.dK kvs)∧y=kV k∧r=fF kvs k)∨∃ kvs k b,Rd H a (.dT kvs)∧y = .ref b∧H b=some (.tup (k.map kV))∧r=fF kvs k
def pW (H:Hp)(a:Addr)(y v:V)(H':Hp):Prop :=
 (∃ kvs k,H a=some (.dK kvs)∧y=kV k∧kvs.length<sizeLine∧H'=upd H a (.dK (cJ kvs k v))) ∨
 ∃ kvs k b,H a=some (.dT kvs)∧y = .ref b∧H b=some (.tup (k.map kV))∧kvs.length<sizeLine∧H'=upd H a (.dT (cJ kvs k v))
theorem jT.k {H:Hp}{a:Addr}{kvs:List (Key×V)}{k:Key}(e:H a=some (.dK kvs)):jT H a (kV k) (fF kvs k):=.inl ⟨kvs,k,.inl e,rfl,rfl⟩
theorem pW.k {H:Hp}{a:Addr}{kvs:List (Key×V)}{k:Key}{v:V}(e:H a=some (.dK kvs))(hl:kvs.length<sizeLine):pW H a (kV k) v (upd H a (.dK (cJ kvs k v))):=.inl ⟨kvs,k,e,rfl,hl,rfl⟩
section
variable {X:Cx}{pins:List (Addr×Obj)}{σ:St}{H:Hp}{s:Shared}{a:Addr}{y v:V}{u r:Value}{o:Option V}{A:Around}{E:Value->Shared->Prop}
theorem Inv.big (I:Inv X pins σ H s):sysModules<s.heap.objs.size:=by
 have h:mainGlobals<s.heap.objs.size:=(I.mod.glob.keeps I.bk).lt;exact Nat.lt_trans (by decide) h
theorem Dq {Q:Value->Shared->Prop}(hu:A.units+1<cLine)(I:Inv X pins σ H s)(g:jT H a y (some v))(ry:bE y u)(h:∀ w' s',Inv X pins σ H s'->bE v w'->Q w' s') :
  wpAny (model X.prog X.w) A (getItem (.ref a) u) Q E s:=by
 rcases g with ⟨kvs,k,e,ey,l⟩ | ⟨kvs,k,b,e,ey,eb,l⟩
 ·subst ey
  obtain ⟨z,hd,vs,rel,dd⟩:=nT I.hok e;obtain ⟨w',hw,rw'⟩:=iF.some_of (v:=v) (o:=valueAt vs k) (by rw [l];exact rel.val k);exact wpAny_getItem_of (nS ry) dd.mapOf hw (h w' _ (I.tok _) rw')
 ·subst ey
  cases (show u=Value.ref b from ry);obtain ⟨z,hd,xs,rel,dd⟩:=pD I.hok e;obtain ⟨w',hw,rw'⟩:=iF.some_of (v:=v) (o:=(atKey xs k).map (·.2)) (by rw [l];exact rel.val k);obtain ⟨p,hp,hp2⟩:=Option.map_eq_some_iff.mp hw;refine wpAny_getItem_heap (tupleKind_room_in1 hu) (nF I.hok eb) dd hp ?_;rw [hp2];exact h w' _ (I.tok _) rw'
theorem Qx {Q:Value->Shared->Prop}(hu:A.units+1<cLine)(I:Inv X pins σ H s)(g:jT H a y o)(ry:bE y u)(h:∀ s',Inv X pins σ H s'->Q (.bool o.isSome) s') :
  wpAny (model X.prog X.w) A (compareOp .In u (.ref a)) Q E s:=by
 rcases g with ⟨kvs,k,e,ey,l⟩ | ⟨kvs,k,b,e,ey,eb,l⟩
 ·subst ey
  obtain ⟨z,hd,vs,rel,dd⟩:=nT I.hok e;refine wpAny_in_of (nS ry) hd dd.mapOf ?_;rw [<- (rel.val k).isSome_eq,<- l];exact h _ (I.tok _)
 ·subst ey
  cases (show u=Value.ref b from ry);obtain ⟨z,hd,xs,rel,dd⟩:=pD I.hok e;refine wpAny_in_heap (tupleKind_room_in1 hu) (nF I.hok eb) hd dd ?_;have q:=(rel.val k).isSome_eq;rw [Option.isSome_map] at q;rw [<- q,<- l];exact h _ (I.tok _)
theorem Jy {Q:Value->Shared->Prop}(hu:A.units+1<cLine)(I:Inv X pins σ H s)(g:jT H a y o)(ry:bE y u)(h:∀ s',Inv X pins σ H s'->Q (.bool (!o.isSome)) s') :
  wpAny (model X.prog X.w) A (compareOp .NotIn u (.ref a)) Q E s:=by
 rcases g with ⟨kvs,k,e,ey,l⟩ | ⟨kvs,k,b,e,ey,eb,l⟩
 ·subst ey
  obtain ⟨z,hd,vs,rel,dd⟩:=nT I.hok e;refine wpAny_notIn_of (nS ry) hd dd.mapOf ?_;rw [<- (rel.val k).isSome_eq,<- l];exact h _ (I.tok _)
 ·subst ey
  cases (show u=Value.ref b from ry);obtain ⟨z,hd,xs,rel,dd⟩:=pD I.hok e;refine wpAny_notIn_heap (tupleKind_room_in1 hu) (nF I.hok eb) hd dd ?_;have q:=(rel.val k).isSome_eq;rw [Option.isSome_map] at q;rw [<- q,<- l];exact h _ (I.tok _)
theorem oV {h':Heap}{t':Nat}{ob:HO}(I:Inv X pins σ H s)(mu:Mut (H a))(hs:Heap.SameBut a s.heap h')(he:∃ q,h'.get? a=some q)(new:cG X.prog X.w (upd H a ob) h' a ob) :
  Inv X pins σ (upd H a ob) { s with heap:=h',toks:=t' } :=
 I.write (x:=a) (e:=a) mu (.inl rfl) (fun b q hb z=>(hs.2 b hb).trans z) he new
theorem yN {P:Program}{w:World}{H':Hp}{h':Heap}{kvs:List (Key×V)}{vs:List (Key×Value)}(z:kvs.length<=sizeLine)(hd:(a==sysModules)=false)(rel:KV kvs vs)(dd:h'.DictOf (bH P w) a vs) :
 cG P w H' h' a (.dK kvs):=⟨z,hd,vs,rel,dd⟩
theorem Bu {H':Hp}{Q:Unit->Shared->Prop}(hu:A.units+1<cLine)(I:Inv X pins σ H s)(g:pW H a y v H')(ry:bE y u)(rv:bE v r)(h:∀ s',Inv X pins σ H' s'->Q () s') :
  wpAny (model X.prog X.w) A (setItem (.ref a) u r) Q E s:=by
 rcases g with ⟨kvs,k,e,ey,l,eH⟩ | ⟨kvs,k,b,e,ey,eb,l,eH⟩
 ·subst ey eH
  obtain ⟨z,hd,vs,rel,dd⟩:=qQ I.hok e;have hz:vs.length<=sizeLine:=by rw [<- rel.length];exact z
  have hl:(cJ kvs k v).length<=sizeLine:=by have:=gU kvs k v;omega
  refine wpAny_setItem_pairs (hsz:=hz) (nS ry) dd fun h' dd' hs=>h _ ?_
  have he:∃ q,h'.get? a=some q:=let ⟨q,_,_,hq,_⟩:=dd';⟨q,hq⟩
  exact oV I (by rw [e];exact True.intro) hs he (yN hl hd (rel.put k rv) dd')
 ·subst ey eH
  cases (show u=Value.ref b from ry);obtain ⟨z,hd,xs,rel,dd⟩:=Nz I.hok e;have hz:xs.length<=sizeLine:=by rw [<- Paired.length rel];exact z
  have hl:(cJ kvs k v).length<=sizeLine:=by have:=gU kvs k v;omega
  refine wpAny_setItem_heap (hsz:=hz) (tupleKind_room_in1 hu) (nF I.hok eb) dd fun h' dd' hs=>h _ ?_
  obtain ⟨q,es,ep,hq,h2,h3,h4,_,h5⟩:=dd';refine oV I (by rw [e];exact True.intro) hs ⟨q,hq⟩ ⟨hl,hd,_,(rel.put k eb rv).keeps fun c ys ec=>?_,q,es,ep,hq,h2,h3,h4,h5⟩;rw [aH (Ov ec e (fun z=>nomatch z))];exact ec
end
section
variable {X:Cx}{pins:List (Addr×Obj)}{σ:St}{H:Hp}{s:Shared}{a:Addr}{kvs:List (Key×V)}{k:Key}{u:Value}{A:Around}{E:Value->Shared->Prop}
theorem Km {Q:Value->Shared->Prop}(I:Inv X pins σ H s)(e:Rd H a (.dK kvs))(h:∀ t s',Inv X pins σ H s'->Q (.int kvs.length t) s'):wpAny (model X.prog X.w) A (call (.builtin "len") [.ref a]) Q E s:=by
 obtain ⟨z,hd,vs,rel,dd⟩:=nT I.hok e;refine call_len_dict hd dd (by rw [<- rel.length];rw [sizeLine_eq] at z;omega) ?_;rw [<- rel.length];exact h _ _ (I.tok _)
end
def Ow (i:Expr):Prop:=∀ ov iv,subscripted i false ov iv=operate [ov,iv] (getItem ov iv)
theorem Ia {prog:Program}{w:World}{A:Around}{E:Value->Shared->Prop}{s:Shared}{env:Env}{value slice:Expr}{pos:Pos}{T id:String}{Q:Value->Shared->Prop}
  (hl:typeLookup (.type T) "__getitem__" = pure (some (.builtin id))) (hs:Ow slice)
  (h:wpAny (model prog w) A (eval value env) (fun o s₁=>wpAny (model prog w) A (eval slice env) (fun i s₂=>s₂.TypeIs o T∧wpAny (model prog w) A (getItem o i) Q E s₂) E s₁) E s) :
  wpAny (model prog w) A (eval (.Subscript value slice pos) env) Q E s:=by
 refine Subscript_ (wpAny_mono h (fun o s₁ h₁=>wpAny_mono h₁ (fun i s₂ h₂=>?_) fun _ _ x=>x) fun _ _ x=>x);obtain ⟨hT,h₂⟩:=h₂;unfold subscriptTail;refine wpAny_bind ?_;rw [getitemInPython_of_ne hT.not_modules];refine wpAny_bind (wpAny_specialOf hT hl ?_);have fin:wpAny (model prog w) A (subscripted slice false o i) (fun r s₃=>wpAny (model prog w) A (letTemporaryGo value o r >>= fun _=>pure r) Q E s₃) E s₂:=by
  rw [hs o i];exact wpAny_operating (wpAny_mono h₂ (fun r s₃ h₃=>wpAny_bind (wpAny_letTemporaryGo (wpAny_pure h₃))) fun _ _ x=>x)
 first
  | exact wpAny_pure (wpAny_bind fin)
  | exact wpAny_bind (wpAny_pure (wpAny_bind fin))
  | exact wpAny_bind fin
theorem xK {X:Cx}{pins:List (Addr×Obj)}{σ:St}{H:Hp}{s:Shared}{a:Addr}{y:V}{o:Option V}(I:Inv X pins σ H s)(g:jT H a y o):s.TypeIs (.ref a) "dict" := by
 rcases g with ⟨kvs,k,e,_,_⟩ | ⟨kvs,k,b,e,_,_,_⟩
 ·obtain ⟨_,_,vs,_,dd⟩:=nT I.hok e
  exact dd.typeIs
 ·obtain ⟨_,_,xs,_,dd⟩:=pD I.hok e
  exact dd.typeIs
def Ou (td ty:TE):TE:=fun σ H Q=>td σ H fun x H1=>ty σ H1 fun y H2=>∃ a v,x = .ref a∧jT H2 a y (some v)∧Q v H2
def Qs (ty td:TE):TE:=fun σ H Q=>ty σ H fun y H1=>td σ H1 fun x H2=>∃ a o,x = .ref a∧jT H2 a y o∧Q (.bl o.isSome) H2
def Jv (ty td:TE):TE:=fun σ H Q=>ty σ H fun y H1=>td σ H1 fun x H2=>∃ a o,x = .ref a∧jT H2 a y o∧Q (.bl (!o.isSome)) H2
def Pj (td ty tv:TE):TS:=fun D σ H=>tv σ H fun v H1=>td σ H1 fun x H2=>ty σ H2 fun y H3=>∃ a H4,x = .ref a∧pW H3 a y v H4∧D.nx σ H4
section
variable {X:Cx}{o i e value:Expr}{pos pos' tpos:Pos}{td ty tv:TE}
theorem vF (hu:X.A.units+1<cLine)(ho:PE X o td)(hi:PE X i ty)(hs:Ow i):PE X (.Subscript o i pos) (Ou td ty):=by
 intro pins s σ H Q I h;refine Ia PySem.F.slot_dict_getitem.lookup hs (thn (ho pins s σ H _ I h) fun u s1 ⟨x,H1,I1,rx,q1⟩=>thn (hi pins s1 σ H1 _ I1 q1) fun iv s2 ⟨y,H2,I2,ry,a,v,ex,g,q2⟩=>?_);subst ex;obtain rfl:u=Value.ref a:=rx;exact ⟨xK I2 g,Dq hu I2 g ry fun w' s3 I3 rw'=>⟨v,H2,I3,rw',q2⟩⟩
theorem Ft (hu:X.A.units+1<cLine)(hi:PE X i ty)(ho:PE X o td):PC X .In i o (Qs ty td):=by
 intro pins s σ H Q I h;refine thn (hi pins s σ H _ I h) fun iv s1 ⟨y,H1,I1,ry,q1⟩=>thn (ho pins s1 σ H1 _ I1 q1) fun u s2 ⟨x,H2,I2,rx,a,ov,ex,g,q2⟩=>?_
 subst ex;obtain rfl:u=Value.ref a:=rx;exact Qx hu I2 g ry fun s3 I3=>⟨.bl ov.isSome,H2,I3,rfl,q2⟩
theorem Cp (hu:X.A.units+1<cLine)(hi:PE X i ty)(ho:PE X o td):PC X .NotIn i o (Jv ty td):=by
 intro pins s σ H Q I h;refine thn (hi pins s σ H _ I h) fun iv s1 ⟨y,H1,I1,ry,q1⟩=>thn (ho pins s1 σ H1 _ I1 q1) fun u s2 ⟨x,H2,I2,rx,a,ov,ex,g,q2⟩=>?_
 subst ex;obtain rfl:u=Value.ref a:=rx;exact Jy hu I2 g ry fun s3 I3=>⟨.bl (!ov.isSome),H2,I3,rfl,q2⟩
theorem iZ (hu:X.A.units+1<cLine)(ho:PE X o td)(hi:PE X i ty)(hv:PE X value tv)(hs:swapsWith value (some (.Subscript o i pos')) pos.line X.env=pure false) :
  PS X (.Assign [.Subscript o i pos'] value pos) (Pj td ty tv):=by
 intro pins s σ H D I h;refine wpAny_Assign_Subscript (thn (hv pins s σ H _ I h) fun r s1 ⟨v,H1,I1,rv,q1⟩=>thn (ho pins s1 σ H1 _ I1 q1) fun u s2 ⟨x,H2,I2,rx,q2⟩=>thn (hi pins s2 σ H2 _ I2 q2) fun iv s3 ⟨y,H3,I3,ry,a,H4,ex,g,q3⟩=>?_) hs;subst ex;obtain rfl:u=Value.ref a:=rx;exact Bu hu I3 g ry rv fun s4 I4=>⟨σ,H4,I4,q3⟩
end
theorem xJ {P:Program}{w:World}{H:Hp}(h:Heap)(hb:sysModules<h.objs.size):cG P w H (h.push { cls:=.type "dict",data:=.dict #[] }) h.objs.size (.dK []) :=
 ⟨Nat.zero_le _,beq_eq_false_iff_ne.mpr (Ne.symm (Nat.ne_of_lt hb)),[],.nil,Heap.DictOf.new h⟩
def Lu:TE:=fun _ H Q=>∀ p,H p=none->Q (.ref p) (upd H p (.dK []))
section
variable {X:Cx}{pos:Pos}
theorem lO:PE X (.Dict [] [] pos) Lu:=fun pins s σ H Q I h =>
 wpAny_Dict_empty ⟨.ref s.heap.objs.size,_,I.laid (a:=s.heap.objs.size) (o:=.dK []) (t':=s.toks) (fun _ _ q=>Heap.get?_push_of_some _ q) (Nat.le_refl _) (xJ s.heap I.big),rfl,h _ (I.hok.fresh (Nat.le_refl _))⟩
end
def uR:List (TE×TE)->St->Hp->(List (V×V)->Hp->Prop)->Prop
 | [],_,H,Q=>Q [] H
 | (tk,tv)::r,σ,H,Q=>tk σ H fun x H1=>tv σ H1 fun y H2=>uR r σ H2 fun ps H3=>Q ((x,y)::ps) H3
abbrev VV:List (V×V)->List (Value×Value)->Prop:=Paired fun p q=>bE p.1 q.1∧bE p.2 q.2
def PPs (X:Cx)(pos:Pos)(keys:List (Option Expr))(values:List Expr)(trs:List (TE×TE)):Prop :=
 ∀ (pins:List (Addr×Obj)) (s:Shared) (σ:St) (H:Hp) (Q:List (V×V)->Hp->Prop),Inv X pins σ H s->uR trs σ H Q ->
  wpAny (model X.prog X.w) X.A (evalPairs (pairTrees keys values X.env pos)) (fun vs s'=>∃ ps H',Inv X pins σ H' s'∧VV ps vs∧Q ps H') X.xe s
theorem Iv {X:Cx}{pos:Pos}:PPs X pos [] [] []:=fun pins s σ H Q I h=>pairTrees_nil_walk ⟨[],H,I,.nil,h⟩
theorem Fa {X:Cx}{pos:Pos}{k v:Expr}{ks:List (Option Expr)}{vs:List Expr}{tk tv:TE}{trs:List (TE×TE)}(hk:PE X k tk)(hv:PE X v tv)(hr:PPs X pos ks vs trs) :
  PPs X pos (some k::ks) (v::vs) ((tk,tv)::trs):=fun pins s σ H Q I h =>
 pairTrees_cons_walk (thn (hk pins s σ H _ I h) fun u s1 ⟨x,H1,I1,rx,q1⟩=>thn (hv pins s1 σ H1 _ I1 q1) fun w2 s2 ⟨y,H2,I2,ry,q2⟩ =>
  thn (hr pins s2 σ H2 _ I2 q2) fun ws s3 ⟨ps,H3,I3,rel,q3⟩=>⟨(x,y)::ps,H3,I3,.cons ⟨rx,ry⟩ rel,q3⟩)
def mV (kvs more:List (Key×V)):List (Key×V):=more.foldl (fun acc kv=>cJ acc kv.1 kv.2) kvs
theorem KV.merge:∀ {more:List (Key×V)} {rs:List (Key×Value)} {kvs:List (Key×V)} {vs:List (Key×Value)},KV more rs->KV kvs vs->KV (mV kvs more) (merged vs rs):=by
 intro more rs kvs vs r;unfold KV at r
 induction r generalizing kvs vs with
 | nil=>intro q;exact q
 | @cons p q ps qs h t ih =>
  intro r0;have e:KV (cJ kvs p.1 p.2) (stored vs q.1 q.2):=by
   have:=r0.put p.1 h.2
   rw [<- h.1];exact this
  exact ih e
theorem kK:∀ (more kvs:List (Key×V)),(mV kvs more).length<=kvs.length+more.length
 | [],kvs=>by show kvs.length<=kvs.length+0;omega
 | p::r,kvs=>by
  have h1:=kK r (cJ kvs p.1 p.2);have h2:=gU kvs p.1 p.2;show (mV (cJ kvs p.1 p.2) r).length<=_;rw [List.length_cons];omega
theorem pF {P:Program}{w:World}:∀ {kvs:List (Key×V)} {ws:List (Value×Value)},VV (kvs.map fun kv=>(kV kv.1,kv.2)) ws->∃ rs,Carries (bH P w) ws rs∧KV kvs rs
 | [],_,r=>by rw [List.map_nil] at r;cases r;exact ⟨[],True.intro,.nil⟩
 | p::kvs,_,r=>by
  rw [List.map_cons] at r
  cases r with
  | @cons a b as bs h t =>
   obtain ⟨rs,c,q⟩:=pF (P:=P) (w:=w) t;obtain ⟨b1,b2⟩:=b;exact ⟨(p.1,b2)::rs,⟨nS h.1,rfl,c⟩,.cons ⟨rfl,h.2⟩ q⟩
def Pm (trs:List (TE×TE)):TE:=fun σ H Q=>∀ p,H p=none->uR trs σ (upd H p (.dK [])) fun ps H2=>H2 p=some (.dK [])∧∃ kvs:List (Key×V),ps=kvs.map (fun kv=>(kV kv.1,kv.2))∧kvs.length<=15∧Q (.ref p) (upd H2 p (.dK (mV [] kvs)))
theorem Jg {X:Cx}{pos:Pos}{keys:List (Option Expr)}{values:List Expr}{trs:List (TE×TE)}(h:PPs X pos keys values trs)(hall:keys.all (·.isSome)=true)(hl:keys.length=values.length)(h0:keys≠[])
  (h15:keys.length<=15):PE X (.Dict keys values pos) (Pm trs):=by
 intro pins s σ H Q I q;have hn:=I.hok.fresh (Nat.le_refl s.heap.objs.size);have I1:=I.laid (a:=s.heap.objs.size) (o:=.dK []) (h':=s.heap.push { cls:=.type "dict",data:=.dict #[] }) (t':=s.toks) (fun _ _ q=>Heap.get?_push_of_some _ q) (Nat.le_refl _) (xJ s.heap I.big)
 refine wpAny_Dict_walk (knd:=bH X.prog X.w) hall hl h0 h15 (thn (h pins _ σ _ _ I1 (q _ hn)) fun ws s2 ⟨ps,H2,I2,rel,e,kvs,ep,lk,q2⟩=>?_);subst ep;obtain ⟨rs,c,rk⟩:=pF (P:=X.prog) (w:=X.w) rel;obtain ⟨z,hd,vs0,r0,dd⟩:=qQ I2.hok e;cases r0;refine ⟨rs,c,dd,fun h' dd' hs=>⟨.ref s.heap.objs.size,_,?_,rfl,q2⟩⟩;have hz:(mV [] kvs).length<=sizeLine:=by
  have h1:=kK kvs [];rw [List.length_nil] at h1;rw [sizeLine_eq];omega
 have he:∃ q,h'.get? s.heap.objs.size=some q:=let ⟨q,_,_,hq,_⟩:=dd';⟨q,hq⟩
 exact oV I2 (by rw [e];exact True.intro) hs he (yN hz hd (rk.merge .nil) dd')
set_option genInjectivity false in
structure M1 (X:Cx)(o:Expr)(m:Str)(apos:Pos)(e:Expr)(cpos:Pos):Prop where
 base:attributeBase o m X.env (eval o X.env)=eval o X.env
 few:((backTo cpos (starEach [e] X.env)).all (fun x=>!x.1)&&(backToKw cpos (keywordEach [] X.env)).all (fun x=>x.1.isSome)
  && decide (([e]:List Expr).length+([]:List Keyword).length+(if ([]:List Keyword).isEmpty then 0 else 1)<30))=true
 line:(apos.endLine==cpos.line)=true
 trees:backTo cpos (starEach [e] X.env)=[(false,eval e X.env)]
set_option genInjectivity false in
structure M2 (X:Cx)(o:Expr)(m:Str)(apos:Pos)(e f:Expr)(cpos:Pos):Prop where
 base:attributeBase o m X.env (eval o X.env)=eval o X.env
 few:((backTo cpos (starEach [e,f] X.env)).all (fun x=>!x.1)&&(backToKw cpos (keywordEach [] X.env)).all (fun x=>x.1.isSome)
  && decide (([e,f]:List Expr).length+([]:List Keyword).length+(if ([]:List Keyword).isEmpty then 0 else 1)<30))=true
 line:(apos.endLine==cpos.line)=true
 trees:backTo cpos (starEach [e,f] X.env)=[(false,eval e X.env),(false,eval f X.env)]
def IsD (H:Hp)(a:Addr):Prop:=(∃ kvs,Rd H a (.dK kvs))∨∃ kvs,Rd H a (.dT kvs)
theorem Lq {X:Cx}{pins:List (Addr×Obj)}{σ:St}{H:Hp}{s:Shared}{a:Addr}(I:Inv X pins σ H s)(d:IsD H a) :
  s.TypeIs (.ref a) "dict" ∧ (∀ b,Value.ref a = .ref b->∃ ob,s.heap.get? b=some ob∧ob.dict=none)∧(a==sysModules)=false:=by
 rcases d with ⟨kvs,e⟩ | ⟨kvs,e⟩
 ·obtain ⟨_,hd,vs,_,dd⟩:=nT I.hok e
  refine ⟨dd.typeIs,fun b q=>?_,hd⟩;cases q;obtain ⟨ob,_,_,h1,h2,_⟩:=dd;exact ⟨ob,h1,h2.2.1⟩
 ·obtain ⟨_,hd,xs,_,dd⟩:=pD I.hok e
  refine ⟨dd.typeIs,fun b q=>?_,hd⟩;cases q;obtain ⟨ob,_,_,h1,h2,_⟩:=dd;exact ⟨ob,h1,h2.2.1⟩
section
variable {X:Cx}{pins:List (Addr×Obj)}{σ:St}{H:Hp}{s:Shared}{a:Addr}{y d:V}{u r:Value}{o:Option V}{A:Around}{E:Value->Shared->Prop}
theorem Md {Q:Value->Shared->Prop}(hu:A.units+1<cLine)(I:Inv X pins σ H s)(g:jT H a y o)(ry:bE y u)(rd:bE d r)(h:∀ w' s',Inv X pins σ H s'->bE (o.getD d) w'->Q w' s') :
  wpAny (model X.prog X.w) A (call (.builtin "dict.get") [.ref a,u,r]) Q E s:=by
 rcases g with ⟨kvs,k,e,ey,l⟩ | ⟨kvs,k,b,e,ey,eb,l⟩
 ·subst ey
  obtain ⟨z,hd,vs,rel,dd⟩:=nT I.hok e;refine call_meetsIn PySem.F.slot_dict_get dd.typeIs PySem.F.entry_dict_get (PySem.F.args_dict_get_3 _ _ _) (meets_dict_get_default (bH X.prog X.w) a (nS ry) hd r) ⟨_,dd.mapOf,h _ _ (I.tok _) ?_⟩;rw [l];exact (rel.val k).getD rd
 ·subst ey
  cases (show u=Value.ref b from ry);obtain ⟨z,hd,xs,rel,dd⟩:=pD I.hok e;refine call_meetsIn PySem.F.slot_dict_get dd.typeIs PySem.F.entry_dict_get (PySem.F.args_dict_get_3 _ _ _) (meetsH_dict_get_default (tupleKind (bH X.prog X.w)) a b hd r) ⟨tupleKind_room_in1 hu,k,xs,nF I.hok eb,dd,h _ _ (I.tok _) ?_⟩;rw [l];exact (rel.val k).getD rd
end
def La (td ty tx:TE):TE:=fun σ H Q=>td σ H fun x H1=>∃ a,x = .ref a∧IsD H1 a∧ty σ H1 fun y H2=>tx σ H2 fun z H3=>∃ o,jT H3 a y o∧Q (o.getD z) H3
section
variable {X:Cx}{o e f:Expr}{apos cpos:Pos}{td ty tx:TE}
theorem Hh (hu:X.A.units+1<cLine)(ho:PE X o td)(he:PE X e ty)(hf:PE X f tx)(m:M2 X o "get" apos e f cpos):PE X (.Call (.Attribute o "get" apos) [e,f] [] cpos) (La td ty tx):=by
 intro pins s σ H Q I h;refine wpAny_Call_method m.base m.few m.line PySem.F.plainAttrs_dict PySem.F.slot_dict_get PySem.F.type_dict_get (thn (ho pins s σ H _ I h) fun u s1 ⟨x,H1,I1,rx,a,ex,d,q1⟩=>?_);subst ex;obtain rfl:u=Value.ref a:=rx;obtain ⟨t1,t2,_⟩:=Lq I1 d;refine ⟨t1,t2,?_⟩;rw [m.trees];refine Calls.callWith_builtin rfl (Calls.evalArgs_plain (Calls.spliced_cons (thn (he pins s1 σ H1 _ I1 q1) fun iv s2 ⟨y,H2,I2,ry,q2⟩ =>
  Calls.spliced_cons (thn (hf pins s2 σ H2 _ I2 q2) fun fv s3 ⟨z,H3,I3,rz,ov,g,q3⟩=>Calls.spliced_nil ?_))))
 exact Md hu I3 g ry rz fun w' s4 I4 rw'=>⟨_,H3,I4,rw',q3⟩
end
section
variable {X:Cx}{pins:List (Addr×Obj)}{σ:St}{H:Hp}{s:Shared}{a:Addr}{kvs:List (Key×V)}{A:Around}{E:Value->Shared->Prop}
end
section
variable {X:Cx}{pins:List (Addr×Obj)}{σ:St}{H:Hp}{s:Shared}{a:Addr}{y:V}{u:Value}{A:Around}{E:Value->Shared->Prop}
end
end L2
namespace Att
open PySem PySem.W PySem.Calls PyProof.Rows
section
variable {prog:Program}{w:World}{A:Around}{E:Value->Shared->Prop}{s:Shared}{K:Frag}
end
end Att
namespace L2
open PySem PySem.Spec PyProof.Rows
section
variable {P:Program}{w:World}{K:PySem.W.Frag}{mg:Str->Option Value}{base:Heap}
end
section
variable {X:Cx}
theorem sQ:eI X (.builtin "len") (fun xs H Q=>∃ a kvs,xs=[V.ref a]∧H a=some (.dK kvs)∧Q (.int kvs.length) H):=by
 intro pins s σ H xs us Q I r h;obtain ⟨a,kvs,rfl,ha,q⟩:=h;obtain ⟨u,rfl,ru⟩:=fU r;cases ru;exact Km I (.inl ha) fun t s' I'=>⟨.int kvs.length,H,I',⟨t,rfl⟩,q⟩
end
section
variable {κ:Type}[DecidableEq κ]
end
namespace RT
def obj (x:Str)(t:Tok)(i:Int):Obj:={ cls:=.type "reversed",data:=.fields #[.str x t,rawInt i] }
def Is (h:Heap)(a:Addr)(x:Str)(t:Tok)(i:Int):Prop:=∃ o,h.get? a=some o∧o.cls = .type "reversed" ∧ o.data = .fields #[.str x t,rawInt i]
section
variable {prog:Program}{w:World}{A:Around}{E:Value->Shared->Prop}{s:Shared}
end
end RT
section
variable {X:Cx}
end
set_option genInjectivity false in
structure Cam (P:Program)(w:World)(K:PySem.W.Frag)(mg:Str->Option Value)(base:Heap)(CX:CXT)(x:Str)(C:Addr)(k:Nat)(ps:List Str)(sp:Sp):Prop where
 ex:∃ (f:Addr) (fd:FuncData),cO P w K mg base CX k f fd ps sp∧Mk K C f∧mg x=some (.ref C)∧lQ K fd ps []
section
variable {X:Cx}
theorem Mf {CX:CXT}{x:Str}{C:Addr}{j k:Nat}{ps:List Str}{sp:Sp}{E:XK}{e:Expr}{es:List Expr}{t:TA}{p pos:Pos}(c:Cam X.prog X.w X.K X.mg X.base CX x C j ps sp)(hr:gD k X.A)(hx:jJ CX X E)(ha:PA X (e::es) t)
  (hjk:j+1<=k:=by decide) (hg:Gl X x:=by rfl) (b1:(x==("__debug__" : Str))=false:=by decide) (b2:starEach (e::es) X.env=(false,eval e X.env)::starEach es X.env:=by rfl) (b3:(backTo pos (starEach es X.env)).any (·.1)=false:=by rfl) :
  PE X (.Call (.Name x p) (e::es) [] pos) (Kt C sp [] E t):=by
 obtain ⟨f,fd,F,M,hm,hb⟩:=c.ex;exact Jc M F (hr.mono hjk) hg hm hb .nil hx ha b1 b2 b3
end
namespace SE
section
variable {prog:Program}{w:World}{A:Around}{E:Value->Shared->Prop}{s:Shared}
end
end SE
section
variable {X:Cx}
end
end L2
namespace ST
open PySem PySem.SetTable
def it (M:Nat):Nat->Nat->Nat
 | 0,i=>i
 | s+1,i=>it M s ((i*5+1) % M)
theorem tX (M:Nat):∀ s t i,it M (s+t) i=it M t (it M s i)
 | 0,t,i=>by rw [Nat.zero_add];rfl
 | s+1,t,i=>by rw [Nat.add_right_comm];exact tX M s t _
def Aj (M:Nat):Nat->Nat->List Nat
 | 0,_=>[]
 | s+1,i=>i::Aj M s ((i*5+1) % M)
theorem wY {M:Nat}:∀ {n i j:Nat},j∈Aj M n i->∃ s,s<n∧it M s i=j
 | n+1,i,j,h=>by
  rw [Aj,List.mem_cons] at h;rcases h with h | h
  ·exact ⟨0,by omega,h.symm⟩
  ·obtain ⟨s,h1,h2⟩:=wY h
   exact ⟨s+1,by omega,h2⟩
def full (M:Nat):Bool:=it M M 0==0&&(List.range M).all fun j=>(Aj M M 0).contains j
theorem Cc {M:Nat}(h:full M=true){a j:Nat}(ha:a<M)(hj:j<M):∃ s,s<M∧it M s a=j:=by
 rw [full,Bool.and_eq_true,beq_iff_eq,List.all_eq_true] at h;have hit:∀ x,x<M->∃ s,s<M∧it M s 0=x:=fun x hx=>wY (by have:=h.2 x (List.mem_range.mpr hx);simpa using this)
 obtain ⟨s0,h0,e0⟩:=hit a ha;obtain ⟨s1,h1,e1⟩:=hit j hj;rcases Nat.lt_or_ge s1 s0 with z | z
 ·refine ⟨M-s0+s1,by omega,?_⟩
  have w:it M (M-s0) a=0:=by rw [<- e0,<- tX,show s0+(M-s0)=M by omega,h.1]
  rw [tX,w,e1]
 ·refine ⟨s1-s0,by omega,?_⟩
  rw [<- e0,<- tX,show s0+(s1-s0)=s1 by omega,e1]
def rE (M:Nat):Prop:=M=8∨M=16∨M=32∨M=64∨M=128∨M=256∨M=512
theorem rE.full {M:Nat}(h:rE M):full M=true:=by
 rcases h with rfl | rfl | rfl | rfl | rfl | rfl | rfl <;> decide +kernel
theorem rE.pos {M:Nat}(h:rE M):8<=M:=by
 rcases h with rfl | rfl | rfl | rfl | rfl | rfl | rfl <;> decide
def lp (mask:Nat):Nat->Nat->Nat->Nat×Nat
 | 0,i,p=>(i,p)
 | s+1,i,p=>lp mask s (leap mask i p).1 (leap mask i p).2
theorem Ha (mask:Nat):∀ s t i p,lp mask (s+t) i p=lp mask t (lp mask s i p).1 (lp mask s i p).2
 | 0,t,i,p=>by rw [Nat.zero_add];rfl
 | s+1,t,i,p=>by rw [Nat.add_right_comm];exact Ha mask s t _ _
theorem Oy (mask:Nat):∀ s i p,(lp mask s i p).2=p/32 ^ s
 | 0,i,p=>by rw [Nat.pow_zero,Nat.div_one];rfl
 | s+1,i,p=>by
  show (lp mask s _ (p/32)).2=_;rw [Oy mask s,Nat.div_div_eq_div_mul,Nat.pow_succ,Nat.mul_comm]
theorem Kl (mask:Nat):∀ s i,(lp mask s i 0).1=it (mask+1) s i
 | 0,i=>rfl
 | s+1,i=>by
  show (lp mask s ((i*5+1+0/32) % (mask+1)) (0/32)).1=_;rw [Nat.zero_div,Nat.add_zero];exact Kl mask s _
theorem Kq (mask:Nat):∀ s i p,i<mask+1->(lp mask s i p).1<mask+1
 | 0,i,p,h=>h
 | s+1,i,p,h=>Kq mask s _ _ (Nat.mod_lt _ (Nat.succ_pos _))
theorem Dv (mask i:Nat):i<=runEnd mask i:=by
 unfold runEnd;split <;> omega
theorem tM {mask:Nat}{owner:Array (Option Nat)}:∀ {fuel i p:Nat},layClean.free mask owner fuel i p=none->∀ s,s<fuel->(owner.getD (lp mask s i p).1 (some 0)).isNone=false
 | fuel+1,i,p,h,s,hs=>by
  rw [layClean.free] at h;split at h
  ·cases h
  ·rename_i hf
   cases s with
   | zero =>
    have:=List.find?_eq_none.mp hf 0 (List.mem_range.mpr (by have:=Dv mask i;omega))
    rw [Nat.add_zero] at this;exact Bool.eq_false_iff.mpr this
   | succ s=>exact tM h s (by omega)
theorem sL {mask:Nat}{owner:Array (Option Nat)}:∀ {fuel i p j:Nat},layClean.free mask owner fuel i p=some j->(owner.getD j (some 0)).isNone=true
 | fuel+1,i,p,j,h=>by
  rw [layClean.free] at h;split at h
  ·rename_i k hf
   cases h
   have:=List.find?_some hf
   exact this
  ·exact sL h
theorem Jw {mask:Nat}{owner:Array (Option Nat)}{i p j:Nat}(hM:rE (mask+1))(hi:i<mask+1)(hp:p<2 ^ 64)(hj:j<mask+1)(he:(owner.getD j (some 0)).isNone=true) :
  ∃ k,layClean.free mask owner (turns mask) i p=some k∧(owner.getD k (some 0)).isNone=true:=by
 cases hf:layClean.free mask owner (turns mask) i p with
 | some k=>exact ⟨k,rfl,sL hf⟩
 | none =>
  exfalso;have h13:(lp mask 13 i p).2=0:=by
   rw [Oy];exact Nat.div_eq_of_lt (Nat.lt_trans hp (by decide))
  obtain ⟨s,hs,e⟩:=Cc hM.full (Kq mask 13 i p hi) hj;have z:=tM hf (13+s) (by unfold turns;omega);rw [Ha,h13,Kl,e,he] at z;cases z
theorem qY {α β:Type}{f g:α->Option β}:∀ l:List α,(∀ i∈l,f i=g i)->l.filterMap f=l.filterMap g
 | [],_=>rfl
 | x::l,h=>by
  have ih:=qY l fun i hi=>h i (List.mem_cons_of_mem _ hi)
  rw [List.filterMap_cons,List.filterMap_cons,h x (List.mem_cons_self ..),ih]
def vals (N:Nat)(f:Nat->Option Nat):List Nat:=(List.range N).filterMap f
theorem Fz {f g:Nat->Option Nat}{j v:Nat}(hf:f j=none)(hg:g j=some v)(he:∀ i,i≠j->g i=f i):∀ l:List Nat,l.Nodup->j∈l->(l.filterMap g).Perm (v::l.filterMap f)
 | x::l,nd,hm=>by
  rw [List.nodup_cons] at nd;by_cases e:x=j
  ·subst e
   rw [List.filterMap_cons_some hg,List.filterMap_cons_none hf]
   have:l.filterMap g=l.filterMap f:=qY l fun i hi=>he i fun z=>nd.1 (z▸hi)
   rw [this]
  ·have hm':j∈l:=by
    rcases List.mem_cons.mp hm with z | z
    ·exact absurd z.symm e
    ·exact z
   have ih:=Fz hf hg he l nd.2 hm';have hx:=he x e
   cases h:f x with
   | none=>rw [List.filterMap_cons_none (hx.trans h),List.filterMap_cons_none h];exact ih
   | some y =>
    rw [List.filterMap_cons_some (hx.trans h),List.filterMap_cons_some h];exact (ih.cons y).trans (List.Perm.swap ..)
theorem Bn {f:Nat->Option Nat}:∀ l:List Nat,(∀ i∈l,(f i).isNone=false)->(l.filterMap f).length=l.length
 | [],_=>rfl
 | x::l,h=>by
  have hx:=h x (List.mem_cons_self ..)
  cases e:f x with
  | none=>rw [e] at hx;cases hx
  | some y=>rw [List.filterMap_cons_some e,List.length_cons,List.length_cons,Bn l fun i hi=>h i (List.mem_cons_of_mem _ hi)]
def uB (mask:Nat)(owner:Array (Option Nat))(k:Nat):Prop:=owner.size=mask+1∧(vals (mask+1) fun j=>owner.getD j none).Perm (List.range k)
theorem getD_some {owner:Array (Option Nat)}{j:Nat}(h:j<owner.size):owner.getD j (some 0)=owner.getD j none:=by
 simp [Array.getD,h]
theorem Jn {mask:Nat}(hM:rE (mask+1)){owner:Array (Option Nat)}{k:Nat}(g:uB mask owner k)(hk:k<mask+1)(h:Int) :
  ∃ j,layClean.free mask owner (turns mask) (bits h % (mask+1)) (bits h)=some j∧uB mask (owner.setIfInBounds j (some k)) (k+1):=by
 obtain ⟨hs,hp⟩:=g;obtain ⟨j0,hj0,he0⟩:∃ j,j<mask+1∧(owner.getD j (some 0)).isNone=true:=by
  apply Classical.byContradiction;intro hno
  have:=Bn (f:=fun j=>owner.getD j none) (List.range (mask+1)) fun i hi=>by
   have hi':=List.mem_range.mp hi;have e:=getD_some (owner:=owner) (j:=i) (by omega)
   cases z:(owner.getD i none).isNone with
   | false=>rfl
   | true=>exact absurd ⟨i,hi',by rw [e];exact z⟩ hno
  rw [List.length_range] at this;have h2:=hp.length_eq;rw [List.length_range] at h2;unfold vals at h2;omega
 obtain ⟨j,e1,e2⟩:=Jw hM (i:=bits h % (mask+1)) (p:=bits h) (Nat.mod_lt _ (Nat.succ_pos _)) (by unfold bits;omega) hj0 he0;have hj:j<owner.size:=by
  rcases Nat.lt_or_ge j owner.size with z | z
  ·exact z
  ·rw [Array.getD,dif_neg (by omega)] at e2
   cases e2
 refine ⟨j,e1,by rw [Array.size_setIfInBounds];exact hs,?_⟩;have hf:(fun i=>owner.getD i none) j=none:=by
  show owner.getD j none=none;rw [getD_some hj] at e2
  cases z:owner.getD j none with
  | none=>rfl
  | some y=>rw [z] at e2;cases e2
 have hg:(fun i=>(owner.setIfInBounds j (some k)).getD i none) j=some k:=by
  show (owner.setIfInBounds j (some k)).getD j none=some k;simp [Array.getD,hj]
 have q:=Fz hf hg (fun i hi=>by
  show (owner.setIfInBounds j (some k)).getD i none=owner.getD i none;rw [Array.getD_eq_getD_getElem?,Array.getD_eq_getD_getElem?,Array.getElem?_setIfInBounds_ne (Ne.symm hi)]) (List.range (mask+1)) List.nodup_range (List.mem_range.mpr (by omega))
 refine q.trans ?_;rw [show List.range (k+1)=List.range k++[k] from List.range_succ];exact (hp.cons k).trans (List.perm_append_singleton ..).symm
theorem Gr {mask:Nat}(hM:rE (mask+1)):∀ (hs:List Int) (owner:Array (Option Nat)) (k:Nat),uB mask owner k->k+hs.length<=mask+1 ->
  ∃ o',(hs.foldl (fun acc h=>do
   let (owner,k) <- acc
   let j <- layClean.free mask owner (turns mask) (bits h % (mask+1)) (bits h)
   pure (owner.setIfInBounds j (some k),k+1)) (some (owner,k)))=some (o',k+hs.length)∧uB mask o' (k+hs.length)
 | [],owner,k,g,_=>⟨owner,rfl,g⟩
 | h::hs,owner,k,g,hk=>by
  rw [List.length_cons] at hk;obtain ⟨j,e,g'⟩:=Jn hM g (by omega) h;obtain ⟨o',e',g''⟩:=Gr hM hs _ _ g' (by omega);refine ⟨o',?_,by rw [List.length_cons,show k+(hs.length+1)=k+1+hs.length by omega];exact g''⟩;rw [List.foldl_cons,List.length_cons,show k+(hs.length+1)=k+1+hs.length by omega,<- e']
  congr 1
  show (layClean.free mask owner (turns mask) (bits h % (mask+1)) (bits h)).bind _=_;rw [e];rfl
theorem Hi (mask:Nat):uB mask (Array.replicate (mask+1) none) 0:=by
 refine ⟨Array.size_replicate,?_⟩
 have:vals (mask+1) (fun j=>(Array.replicate (mask+1) (none:Option Nat)).getD j none)=[]:=by
  unfold vals;refine List.filterMap_eq_nil_iff.mpr fun i _=>?_
  rw [Array.getD_eq_getD_getElem?,Array.getElem?_replicate];split <;> rfl
 rw [this];exact List.Perm.refl _
theorem As {mask finger moves:Nat}{led plain:Bool}{hashes:Array Int}(hM:rE (mask+1))(hn:hashes.size<=mask) :
  ∃ (t:SetTable) (order:Array Nat),laid mask finger moves led plain hashes=some (t,order)∧order.toList.Perm (List.range hashes.size)∧t.place.size=hashes.size∧t.mask=mask∧t.dummies = #[]∧t.led=led∧t.plain=plain:=by
 obtain ⟨o,e,g⟩:=Gr hM hashes.toList _ 0 (Hi mask) (by rw [Array.length_toList];omega);have hc:layClean mask hashes=some o:=by
  unfold layClean;rw [<- Array.foldl_toList];refine (congrArg (Option.map (·.1)) e).trans ?_;rfl
 have em:((List.range (mask+1)).filterMap fun j=>(o.getD j none).map (j,·)).map (·.2)=vals (mask+1) fun j=>o.getD j none:=by
  rw [List.map_filterMap];unfold vals;refine qY _ fun i _=>?_
  cases o.getD i none <;> rfl
 have gp:(vals (mask+1) fun j=>o.getD j none).Perm (List.range hashes.size):=by
  have:=g.2
  rw [Nat.zero_add,Array.length_toList] at this;exact this
 refine ⟨_,_,by unfold laid;rw [hc];rfl,by rw [em];exact gp,?_,rfl,rfl,rfl,rfl⟩;show (((List.range (mask+1)).filterMap fun j=>(o.getD j none).map (j,·)).map (·.1)).toArray.size=_;have hl:=congrArg List.length em;rw [List.length_map] at hl;rw [List.size_toArray,List.length_map,hl,gp.length_eq,List.length_range]
end ST
namespace SS
open PySem PyProof.Rows
def byT (w:World):Bool:=w.params.followText "set-order"
def gT:Value->Str
 | .str x _=>x
 | _=>Str.empty
def El (w:World)(e:Int×Value):Prop:=e.1=hashStr w (gT e.2)∧∃ t,e.2 = .str (gT e.2) t
def Els (w:World)(es:List (Int×Value))(ms:List Str):Prop:=(∀ e∈es,El w e)∧(es.map fun e=>gT e.2).Perm ms
theorem Els.perm {w:World}{es es':List (Int×Value)}{ms:List Str}(h:Els w es ms)(p:es'.Perm es):Els w es' ms:=⟨fun e he=>h.1 e (p.mem_iff.mp he),(p.map _).trans h.2⟩
theorem Els.of {w:World}{prog:Program}{es:List (Int×Value)}{ms:List Str}(h:Els w es ms):ElemsOf (PySem.strKind prog w) es:=fun e he=>by
 obtain ⟨h1,t,h2⟩:=h.1 e he;refine ⟨⟨gT e.2,?_,h1⟩,?_⟩
 ·rw [h2]
  exact strKind_is prog w _ t
 ·rw [h2]
  rfl
theorem Els.len {w:World}{es:List (Int×Value)}{ms:List Str}(h:Els w es ms):es.length=ms.length:=by
 have:=h.2.length_eq
 rwa [List.length_map] at this
theorem Els.has {w:World}{prog:Program}{es:List (Int×Value)}{ms:List Str}(h:Els w es ms)(k:Str):k∈ms↔∃ e∈es,(PySem.strKind prog w).is k e.2=true:=by
 rw [<- h.2.mem_iff,List.mem_map];constructor
 ·rintro ⟨e,he,rfl⟩
  obtain ⟨_,t,h2⟩:=h.1 e he;refine ⟨e,he,?_⟩
  conv=>lhs;arg 3;rw [h2]
  exact strKind_is prog w _ t
 ·rintro ⟨e,he,hk⟩
  obtain ⟨t,ht⟩:=Value.isStrOf_shape hk;exact ⟨e,he,by rw [ht];rfl⟩
def Is (w:World)(h:Heap)(a:Addr)(ms:List Str):Prop :=
 ∃ o es ep t,h.get? a=some o∧o.ExactSet∧o.data = .set es ep t∧Els w es.toList ms∧ms.Nodup∧es.size<scanBound∧t.fits es.size=true∧(byT w=true∨t.led=true)∧(es.size=0∨t.plain=false)
theorem Is.at {w:World}{h h':Heap}{a:Addr}{ms:List Str}(x:Is w h a ms)(e:∀ o,h.get? a=some o->h'.get? a=some o):Is w h' a ms:=let ⟨o,es,ep,t,ho,r⟩:=x;⟨o,es,ep,t,e o ho,r⟩
theorem Is.there {w:World}{h:Heap}{a:Addr}{ms:List Str}(x:Is w h a ms):∃ o,h.get? a=some o:=let ⟨o,_,_,_,ho,_⟩:=x;⟨o,ho⟩
theorem pR (t:SetTable)(es:Array (Int×Value))(h:Int)(x:Value):(layNew t es h x).2.1.led=t.led:=by
 unfold layNew;split
 ·rename_i slot wd _
  show ((t.put slot).1.orStandIn _).led=t.led;unfold SetTable.orStandIn;split <;> rfl
 ·rfl
theorem oZ {mask finger moves:Nat}{led plain:Bool}{hs:Array Int}{t:SetTable}{o:Array Nat}(h:SetTable.laid mask finger moves led plain hs=some (t,o)):t.led=led∧t.plain=plain:=by
 unfold SetTable.laid at h
 cases hc:SetTable.layClean mask hs with
 | none=>rw [hc] at h;cases h
 | some ow =>
  rw [hc] at h;have h':=Option.some.inj h;rw [<- (Prod.mk.inj h').1];exact ⟨rfl,rfl⟩
theorem pC (t:SetTable)(es:Array (Int×Value))(n:Nat)(hp:t.plain=false):(relayAll t es n).2.1.led=t.led∧(relayAll t es n).2.1.plain=false:=by
 unfold relayAll;split
 ·rename_i t' order e
  obtain ⟨h1,h2⟩:=oZ e
  dsimp only
  split
  ·exact ⟨h1,h2.trans hp⟩
  ·exact ⟨rfl,rfl⟩
 ·exact ⟨rfl,rfl⟩
section
variable {prog:Program}{w:World}{A:Around}{E:Value->Shared->Prop}{s:Shared}
theorem Is.store (prog:Program){a:Addr}{o:Obj}{es es':Array (Int×Value)}{ep:Nat}{t t':SetTable}{h:Heap}{ms:List Str}(ho:h.get? a=some o)(hex:o.ExactSet)(hd:o.data = .set es ep t)(hel:Els w es'.toList ms)(hnd:ms.Nodup)(hb:es'.size<scanBound)(hf:t'.fits es'.size=true)
  (hl:byT w=true∨t'.led=true) (hp:es'.size=0∨t'.plain=false):(h.update a (Obj.putSet es' t')).get? a=some { o with data:=.set es' (ep+1) t' }∧Is w (h.update a (Obj.putSet es' t')) a ms:=by
 have hg:=(SetOf_store (knd:=PySem.strKind prog w) (S':=fun k=>decide (k∈ms)) ho hex hd hel.of (fun k=>by rw [decide_eq_true_iff];exact hel.has k) hb hf).1;exact ⟨hg,_,es',ep+1,t',hg,hex,rfl,hel,hnd,hb,hf,hl,hp⟩
theorem uA {a : Addr} {ms : List Str} {k : Str} {tk : Tok} {Q : Bool → Shared → Prop} (hS : Is w s.heap a ms) (hroom : ms.length + 1 < scanBound)
    (h : ∀ h' ms', Heap.SameBut a s.heap h' → Is w h' a ms' → (∀ x, x ∈ ms' ↔ x ∈ ms ∨ x = k) → ms'.length ≤ ms.length + 1 → Q (!decide (k ∈ ms)) { s with heap := h' }) :
    wpAny (model prog w) A (setAddHashed a (.str k tk) (hashStr w k)) Q E s := by
  obtain ⟨o, es, ep, t, ho, hex, hd, hel, hnd, hb, hf, hl, hp⟩ := hS;have hn : es.size = ms.length := by rw [← hel.len, Array.length_toList]
  have hkey : (PySem.strKind prog w).is k (.str k tk) = true := strKind_is prog w k tk;unfold setAddHashed setAddHashedIn;refine wpAny_holding (wpAny_bind (wpAny_setState_of ho hd hf ?_))
  dsimp only
  rw [byScan_of (knd := PySem.strKind prog w) (x := .str k tk) rfl hb hel.of];simp only [↓reduceIte];unfold setAddByScan;refine wpAny_bind (wpAny_bind (wpAny_rule (wpAny_bind (wpAny_setScan_of (knd := PySem.strKind prog w) hkey ho hd hf hel.of ?_))))
  cases hr : List.findIdx? (fun e => (PySem.strKind prog w).is k e.2) es.toList with
  | some j =>
    dsimp only
    obtain ⟨hj, hpj, _⟩ := List.findIdx?_eq_some_iff_getElem.mp hr;have hm : k ∈ ms := (hel.has (prog := prog) k).mpr ⟨es.toList[j], List.getElem_mem hj, hpj⟩;refine wpAny_pure (wpAny_pure ?_);have z := h s.heap ms (Heap.SameBut.refl a s.heap) ⟨o, es, ep, t, ho, hex, hd, hel, hnd, hb, hf, hl, hp⟩ (fun x => ⟨.inl, fun q => q.elim id fun e => e ▸ hm⟩) (by omega);rw [decide_eq_true hm] at z;exact z
  | none =>
    dsimp only
    have hm : ¬ k ∈ ms := fun z => by
      obtain ⟨e, he, q⟩ := (hel.has (prog := prog) k).mp z;have := List.findIdx?_eq_none_iff.mp hr e he;rw [q] at this;cases this
    have gw : ∀ (b : Bool) {s₁ : Shared} {Q' : Unit → Shared → Prop}, Q' () s₁ → wpAny (model prog w) A (match b with | true => rule "set.scan.the-table-gave-way" | false => pure ()) Q' E s₁ := fun b s₁ Q' hq => by
      cases b
      · exact wpAny_pure hq
      · exact wpAny_rule hq
    have hperm := layNew_perm t es (hashStr w k) (.str k tk);have hfits := layNew_fits t es (hashStr w k) (.str k tk);have hled := pR t es (hashStr w k) (.str k tk);generalize hL : layNew t es (hashStr w k) (.str k tk) = L at hperm hfits hled ⊢;obtain ⟨es1, t1, wasDummy, gave⟩ := L
    dsimp only at hperm hfits hled ⊢
    rw [Array.toList_push] at hperm;have hel1 : Els w es1.toList (ms ++ [k]) := by
      refine Els.perm ⟨fun e he => ?_, ?_⟩ hperm
      · rcases List.mem_append.mp he with z | z
        · exact hel.1 e z
        · have e' : e = (hashStr w k, .str k tk) := by simpa using z
          rw [e'];exact ⟨rfl, tk, rfl⟩
      · rw [List.map_append]
        exact hel.2.append_right _
    have hnd1 : (ms ++ [k]).Nodup := List.nodup_append.mpr ⟨hnd, by simp, fun x hx y hy e => hm (by have : y = k := (by simpa using hy); rw [← this, ← e]; exact hx)⟩;have hsz1 : es1.size = ms.length + 1 := by rw [← Array.length_toList, hel1.len, List.length_append, List.length_singleton]
    have hb1 : es1.size < scanBound := by omega
    have fin : ∀ h', Heap.SameBut a s.heap h' → Is w h' a (ms ++ [k]) → Q true { s with heap := h' } := fun h' sb x => by
      have z := h h' (ms ++ [k]) sb x (fun y => by rw [List.mem_append, List.mem_singleton]) (by rw [List.length_append, List.length_singleton]; omega);rw [decide_eq_false hm] at z;exact z
    have tail : ∀ t2 : SetTable, t2.fits es1.size = true → (byT w = true ∨ t2.led = true) → t2.plain = false → wpAny (model prog w) A (do
        storeSet a es1 t2
        if (!wasDummy && t2.tooFull) = true then do
            (match (relayAll t2 es1 (SetTable.grown es1.size)).2.2 with | true => rule "set.scan.the-table-gave-way" | false => pure ())
            storeSet a (relayAll t2 es1 (SetTable.grown es1.size)).1 (relayAll t2 es1 (SetTable.grown es1.size)).2.1
            pure (some true)
          else pure (some true)) (fun r s' => wpAny (model prog w) A (match r with | some added => pure added | none => setAddHashedIn a (.str k tk) (hashStr w k) 99999) Q E s') E s := fun t2 hf2 hl2 hp2 => by
      refine wpAny_bind (wpAny_storeSet_of ho hd ?_ (fits_of_scanBound hb1));obtain ⟨ho1, hS1⟩ := Is.store prog ho hex hd hel1 hnd1 hb1 hf2 hl2 (.inr hp2);have sb1 := Heap.SameBut.update s.heap a (Obj.putSet es1 t2);split
      · have q1 := relayAll_perm t2 es1 (SetTable.grown es1.size)
        have q2 := relayAll_fits t2 es1 (SetTable.grown es1.size);have q3 := pC t2 es1 (SetTable.grown es1.size) hp2;generalize relayAll t2 es1 (SetTable.grown es1.size) = Rl at q1 q2 q3 ⊢;obtain ⟨es2, t3, g2⟩ := Rl
        dsimp only at q1 q2 q3 ⊢
        have hel2 := hel1.perm q1;have hsz : es2.size = es1.size := by rw [← Array.length_toList, q1.length_eq, Array.length_toList]
        have hb2 : es2.size < scanBound := by omega
        refine wpAny_bind (gw _ (wpAny_bind (wpAny_storeSet_of ho1 rfl ?_ (fits_of_scanBound hb2))));obtain ⟨_, hS2⟩ := Is.store prog ho1 hex rfl hel2 hnd1 hb2 q2 (hl2.imp id fun z => q3.1.trans z) (.inr q3.2);exact wpAny_pure (wpAny_pure (fin _ (sb1.trans (Heap.SameBut.update _ a _)) hS2))
      · exact wpAny_pure (wpAny_pure (fin _ sb1 hS1))
    refine wpAny_bind (gw _ ?_);have hl1 : byT w = true ∨ t1.led = true := hl.imp id fun z => hled.trans z
    split
    · refine wpAny_bind (wpAny_pure ?_)
      simp only [Bool.false_eq_true, ↓reduceIte];exact tail { t1 with plain := false } (SetTable.fits_plain_off hfits) hl1 rfl
    · rename_i hpl
      refine wpAny_bind (wpAny_pure ?_);simp only [↓reduceIte];exact tail t1 hfits hl1 (Bool.eq_false_iff.mpr hpl)
end
theorem pP:∀ n,n<=256->ST.rE (SetTable.sizeAbove n)∧n<SetTable.sizeAbove n:=by
 have key:∀ n,n<257->(SetTable.sizeAbove n=8∨SetTable.sizeAbove n=16∨SetTable.sizeAbove n=32∨SetTable.sizeAbove n=64∨SetTable.sizeAbove n=128∨SetTable.sizeAbove n=256∨SetTable.sizeAbove n=512)∧n<SetTable.sizeAbove n:=by decide +kernel
 exact fun n h=>key n (by omega)
theorem lX {es:Array (Int×Value)}{order:Array Nat}(h:order.toList.Perm (List.range es.size)):(order.filterMap (es[·]?)).toList.Perm es.toList:=by
 rw [Array.toList_filterMap];exact (h.filterMap _).trans (by rw [filterMap_getElem?_range])
theorem lA {α:Type}:∀ (l:List α) (i:Nat) (h:i<l.length),(l[i]::l.eraseIdx i).Perm l
 | x::l,0,_=>List.Perm.refl _
 | x::l,i+1,h=>by
  have h':i<l.length:=by simpa using h
  have ih:=lA l i h';exact (List.Perm.swap x (l[i]'h') (l.eraseIdx i)).trans (ih.cons x)
theorem mH {α:Type}(next:Nat->Nat)(xs:Array α):(pickOrder next xs).toList.Perm xs.toList:=by
 have key:∀ (fuel k:Nat) (left:List α) (out:Array α),left.length=fuel->(pickOrder.go next fuel k left out).toList.Perm (out.toList++left):=by
  intro fuel
  induction fuel with
  | zero =>
   intro k left out hl;obtain rfl:=List.length_eq_zero_iff.mp hl;rw [pickOrder.go,List.append_nil]
  | succ fuel ih =>
   intro k left out hl;have hlt:next k % left.length<left.length:=Nat.mod_lt _ (by omega);rw [pickOrder.go,List.getElem?_eq_getElem hlt]
   dsimp only
   refine (ih _ _ _ (by rw [List.length_eraseIdx_of_lt hlt];omega)).trans ?_;rw [Array.toList_push,List.append_assoc];refine List.Perm.append_left _ ?_;exact lA left _ hlt
 have z:=key xs.size 0 xs.toList #[] (Array.length_toList)
 simpa [pickOrder] using z
section
variable {prog:Program}{w:World}{A:Around}{E:Value->Shared->Prop}{s:Shared}
theorem dL {Q:Bool->Shared->Prop}(h:Q (byT w) s):wpAny (model prog w) A setsByText Q E s:=by
 unfold setsByText;exact wpAny_bind (wpAny_askSetting (wpAny_pure h))
theorem xP {a:Addr}{ms:List Str}{n:Nat}{Q:Unit->Shared->Prop}{o:Obj}{es:Array (Int×Value)}{ep:Nat}{t:SetTable}(ho:s.heap.get? a=some o)(hd:o.data = .set es ep t)(hf:t.fits es.size=true)(hn:n<=256)(hm:es.size<=n)
  (h:∀ (es':Array (Int×Value)) (t':SetTable),es'.toList.Perm es.toList->t'.place.size=es.size->t'.mask+1=SetTable.sizeAbove n->t'.dummies = #[]->t'.led=t.led->t'.plain=t.plain->Q () { s with heap:=s.heap.update a (Obj.putSet es' t') }) :
  wpAny (model prog w) A (setRelay a n) Q E s:=by
 obtain ⟨hM,hlt⟩:=pP n hn;have h8:=hM.pos;unfold setRelay;refine wpAny_bind (wpAny_setState_of ho hd hf ?_)
 dsimp only
 have hs:sizeLine=16777216:=sizeLine_eq;have hsl:¬ SetTable.sizeAbove n>sizeLine:=by
  rcases hM with e | e | e | e | e | e | e <;> omega
 rw [if_neg hsl];obtain ⟨t',order,e1,e2,e3,e4,e5,e6,e7⟩:=ST.As (mask:=SetTable.sizeAbove n-1) (finger:=t.finger) (moves:=t.movedTo (SetTable.sizeAbove n-1)) (led:=t.led) (plain:=t.plain) (hashes:=es.map (·.1)) (by rw [Nat.sub_add_cancel (by omega)];exact hM) (by rw [Array.size_map];omega);have e1':t.relaid (es.map (·.1)) n=some (t',order):=e1;rw [e1'];rw [Array.size_map] at e2 e3;have hp:=lX e2;have hsz:(order.filterMap (es[·]?)).size=es.size:=by rw [<- Array.length_toList,hp.length_eq,Array.length_toList]
 refine wpAny_bind (m:=(do
  if ((order.filterMap (es[·]?)).size != es.size)=true then unsupported "internal:set-table-lost-an-element"
  pure (order.filterMap (es[·]?),t'))) ?_
 rw [hsz,bne_self_eq_false,if_neg Bool.false_ne_true];refine wpAny_pure ?_;exact wpAny_storeSet_of ho hd (h _ _ hp e3 (by rw [e4];omega) e5 e6 e7) (by rw [hsz];omega)
theorem Fc {a b:Addr}{ms ms':List Str}{Q:Bool->Shared->Prop}(h1:Is w s.heap a ms)(h2:Is w s.heap b ms')(h:Q true s):wpAny (model prog w) A (setsQuiet [a,b]) Q E s:=by
 unfold setsQuiet;refine wpAny_bind ?_;refine wpAny_forIn_list _ (fun rest r s'=>r=(none,())∧s'=s∧∀ c∈rest,∃ ks,Is w s.heap c ks) _ ?_ ?_ _ _ ⟨rfl,rfl,fun c hc=>?_⟩
 ·rintro c rest r s' ⟨rfl,rfl,hall⟩
  obtain ⟨ks,hc⟩:=hall c (List.mem_cons_self ..);obtain ⟨o,es,ep,t,ho,hex,hd,hel,hnd,hb,hf,_⟩:=hc;refine wpAny_bind (wpAny_setEntries_of ho hd hf (wpAny_bind ?_));rw [<- Array.forIn_toList];refine wpAny_forIn_list _ (fun rest r s2=>r=(none,())∧s2=s'∧∀ e∈rest,El w e) _ ?_ ?_ _ _ ⟨rfl,rfl,hel.1⟩
  ·rintro ⟨hh,x⟩ rest2 r s2 ⟨rfl,rfl,hall2⟩
   obtain ⟨_,tk,e⟩:=hall2 _ (List.mem_cons_self ..)
   dsimp only at e ⊢
   rw [e];exact wpAny_pure ⟨rfl,rfl,fun u hu=>hall2 u (List.mem_cons_of_mem _ hu)⟩
  ·rintro r s2 ⟨rfl,rfl,_⟩
   exact wpAny_pure ⟨rfl,rfl,fun u hu=>hall u (List.mem_cons_of_mem _ hu)⟩
 ·rintro r s' ⟨rfl,rfl,_⟩
  exact wpAny_pure h
 ·rcases List.mem_cons.mp hc with rfl | hc
  ·exact ⟨ms,h1⟩
  ·rcases List.mem_cons.mp hc with rfl | hc
   ·exact ⟨ms',h2⟩
   ·cases hc
theorem Nq {a b:Addr}{ms1 ms2:List Str}{Q:Array (Int×Value)->Shared->Prop}(h1:Is w s.heap a ms1)(hne:ms1≠[])(h2:Is w s.heap b ms2)(h:∀ es:Array (Int×Value),Els w es.toList ms2->Q es s) :
  wpAny (model prog w) A (setWalkUnseen b [a] (some a)) Q E s:=by
 obtain ⟨o,es,ep,t,ho,hex,hd,hel,hnd,hb,hf,hl,hp⟩:=id h2;unfold setWalkUnseen;refine wpAny_bind (wpAny_setState_of ho hd hf ?_)
 dsimp only
 refine wpAny_bind (dL ?_);have walk:∀ Q':Array (Int×Value)->Shared->Prop,(byT w=true∨es.size<=1)->(∀ es':Array (Int×Value),Els w es'.toList ms2->Q' es' s)->wpAny (model prog w) A (setWalk b) Q' E s:=fun Q' hc hQ=>by
  unfold setWalk;refine wpAny_bind (wpAny_setState_of ho hd hf ?_)
  dsimp only
  refine wpAny_bind (dL ?_);by_cases hby:byT w=true
  ·rw [if_pos hby]
   refine wpAny_bind (wpAny_askSetting (wpAny_pure (hQ _ (hel.perm (mH _ _)))))
  ·rw [if_neg hby]
   have h1:es.size<=1:=hc.resolve_left hby;have hdr:(!t.plain&&decide (es.size>1))=false:=by
    rw [decide_eq_false (by omega),Bool.and_false]
   have hml:(!t.led&&decide (es.size>1))=false:=by
    rw [decide_eq_false (by omega),Bool.and_false]
   show wpAny _ _ (if (!t.plain&&decide (es.size>1))=true then _ else _) _ _ s;rw [hdr,if_neg Bool.false_ne_true];refine wpAny_bind (m:=if (!t.led&&decide (es.size>1))=true then unsupported "set:maker-not-led" else pure ()) ?_
   rw [hml,if_neg Bool.false_ne_true];exact wpAny_pure (wpAny_pure (hQ _ hel))
 by_cases hc:byT w=true∨es.size<=1
 ·have e:(byT w||(t.led&&t.plain)||decide (es.size<=1))=true:=by
   rcases hc with z | z
   ·rw [z];simp
   ·rw [decide_eq_true z];simp
  rw [e,if_pos rfl];exact walk _ hc h
 ·have hby:byT w=false:=Bool.eq_false_iff.mpr fun z=>hc (.inl z)
  have hs1:¬ es.size<=1:=fun z=>hc (.inr z)
  have hpl:t.plain=false:=hp.resolve_left (by omega);have hld:t.led=true:=hl.resolve_left (by rw [hby];exact Bool.false_ne_true);have e:(byT w||(t.led&&t.plain)||decide (es.size<=1))=false:=by
   rw [hby,hpl,decide_eq_false hs1];simp
  rw [e,if_neg Bool.false_ne_true];refine wpAny_bind (Fc h2 h1 ?_);simp only [Bool.not_true,Bool.false_eq_true,↓reduceIte];refine wpAny_bind (wpAny_rule ?_);obtain ⟨o1,es1,ep1,t1,ho1,hex1,hd1,hel1,hnd1,hb1,hf1,hl1,hp1⟩:=id h1;refine wpAny_bind (wpAny_setState_of ho1 hd1 hf1 ?_)
  dsimp only
  have hs0:es1.size≠0:=fun z=>hne (List.length_eq_zero_iff.mp (by rw [<- hel1.len,Array.length_toList];exact z))
  have hpl1:t1.plain=false:=hp1.resolve_left hs0;have hc2:(t1.led && !t.led||t1.plain && !t.plain)=false:=by
   rw [hld,hpl1];simp
  rw [hc2,if_neg Bool.false_ne_true];exact wpAny_pure (h es hel)
theorem Ie {a:Addr}{ms:List Str}{m:Nat}{Q:Unit->Shared->Prop}(hS:Is w s.heap a ms)(hm:ms.length+m<=128)(h:∀ h',Heap.SameBut a s.heap h'->Is w h' a ms->Q () { s with heap:=h' }):wpAny (model prog w) A (setRoomFor a m) Q E s:=by
 obtain ⟨o,es,ep,t,ho,hex,hd,hel,hnd,hb,hf,hl,hp⟩:=id hS;have hn:es.size=ms.length:=by rw [<- hel.len,Array.length_toList]
 have hpsz:t.place.size=es.size:=by
  simp only [SetTable.fits,Bool.and_eq_true,beq_iff_eq] at hf;exact hf.1
 unfold setRoomFor;refine wpAny_bind (wpAny_setState_of ho hd hf ?_)
 dsimp only
 unfold SetTable.roomFor;by_cases hc:(t.fill+m)*5≥t.mask*3
 ·rw [if_pos hc]
  refine xP (ms:=ms) ho hd hf (by omega) (by omega) fun es' t' p1 p2 p3 p4 p5 p6=>?_
  have hsz:es'.size=es.size:=by rw [<- Array.length_toList,p1.length_eq,Array.length_toList]
  have h8:=(pP ((t.place.size+m)*2) (by omega)).2;have hf':t'.fits es'.size=true:=by
   simp only [SetTable.fits,Bool.and_eq_true,beq_iff_eq,decide_eq_true_eq,SetTable.fill,p4];exact ⟨by omega,by show t'.place.size+0<=t'.mask;omega⟩
  exact h _ (Heap.SameBut.update _ a _) (Is.store prog ho hex hd (hel.perm p1) hnd (by omega) hf' (hl.imp id fun z=>p5.trans z) (hp.imp (fun z=>by omega) fun z=>p6.trans z)).2
 ·rw [if_neg hc]
  exact wpAny_pure (h s.heap (Heap.SameBut.refl a _) hS)
theorem Gf {a b:Addr}{ms1 ms2:List Str}{each:Sem Unit}{Q:Unit->Shared->Prop}(hab:a≠b)(h1:Is w s.heap a ms1)(h2:Is w s.heap b ms2)(hne:ms1≠[])(hsz:ms1.length+ms2.length<=128)
  (heach:∀ (s':Shared) (Q':Unit->Shared->Prop),(∀ o,s.heap.get? b=some o->s'.heap.get? b=some o)->Q' () s'->wpAny (model prog w) A each Q' E s')
  (h:∀ h' ms',Heap.SameBut a s.heap h'->Is w h' a ms'->(∀ x,x∈ms'↔x∈ms1∨x∈ms2)->ms'.length<=ms1.length+ms2.length->Q () { s with heap:=h' }):wpAny (model prog w) A (setMerge a b each) Q E s:=by
 obtain ⟨o,es,ep,t,ho,hex,hd,hel,hnd,hb,hf,hl,hp⟩:=id h2;have hn:es.size=ms2.length:=by rw [<- hel.len,Array.length_toList]
 unfold setMerge;rw [if_neg (show ¬ ((a==b)=true) by rw [beq_iff_eq];exact hab)];refine wpAny_bind (wpAny_setState_of ho hd hf ?_)
 dsimp only
 by_cases h0:es.isEmpty=true
 ·rw [if_pos h0]
  have e0:ms2=[]:=List.length_eq_zero_iff.mp (by rw [<- hn];simpa using h0);exact wpAny_pure (h s.heap ms1 (Heap.SameBut.refl a _) h1 (fun x=>by rw [e0];simp) (by omega))
 rw [if_neg h0];refine wpAny_bind (Ie h1 (by omega) fun h3 sb3 i3=>?_);have hb3:h3.get? b=some o:=(sb3.2 b (Ne.symm hab)).trans ho;have h2':Is w h3 b ms2:=⟨o,es,ep,t,hb3,hex,hd,hel,hnd,hb,hf,hl,hp⟩;obtain ⟨o3,es3,ep3,t3,ho3,hex3,hd3,hel3,hnd3,hb3',hf3,hl3,hp3⟩:=id i3;refine wpAny_bind (wpAny_setState_of (s:={ s with heap:=h3 }) ho3 hd3 hf3 ?_)
 dsimp only
 have hroad:t3.road t = .oneByOne:=by
  unfold SetTable.road;have hp:t3.place.size=es3.size:=by
   simp only [SetTable.fits,Bool.and_eq_true,beq_iff_eq] at hf3;exact hf3.1
  have hpos:0<es3.size:=by
   rw [<- Array.length_toList,hel3.len];exact List.length_pos_iff.mpr hne
  rw [if_pos];rw [bne_iff_ne];unfold SetTable.fill;omega
 rw [hroad]
 dsimp only
 refine wpAny_bind (Nq (s:={ s with heap:=h3 }) i3 hne h2' fun es4 hel4=>wpAny_bind ?_);rw [<- Array.forIn_toList];refine wpAny_forIn_list _ (fun rest _ s'=>∃ dn ms',es4.toList=dn++rest∧s' = { s with heap:=s'.heap }∧Heap.SameBut a s.heap s'.heap∧Is w s'.heap a ms'∧(∀ x,x∈ms'↔x∈ms1∨∃ e∈dn,x=gT e.2)∧ms'.length<=ms1.length+dn.length) _ ?_ ?_ _ _ ⟨[],ms1,rfl,rfl,sb3,i3,fun x=>by simp,by simp⟩
 ·rintro ⟨hh,x⟩ rest u s' ⟨dn,ms',e1,e2,sb,i4,hm,hle⟩
  obtain ⟨q1,tk,q2⟩:=hel4.1 (hh,x) (by rw [e1];simp)
  dsimp only at q1 q2 ⊢
  have hlen:dn.length+(rest.length+1)=ms2.length:=by
   have:=congrArg List.length e1
   rw [hel4.len,List.length_append,List.length_cons] at this;omega
  rw [q2,q1];have sb128:scanBound=4096:=rfl;refine wpAny_bind (wpAny_holding (uA (s:=s') i4 (by omega) fun h5 ms5 sb5 i5 hm5 hl5=>?_));have hb5:h5.get? b=some o:=(sb5.2 b (Ne.symm hab)).trans ((sb.2 b (Ne.symm hab)).trans ho);refine wpAny_bind (heach _ _ (fun o' z=>?_) ?_)
  ·rw [ho] at z
   cases z;exact hb5
  ·refine wpAny_bind (wpAny_setState_of (s:={ s' with heap:=h5 }) hb5 hd hf ?_)
   dsimp only
   rw [bne_self_eq_false,if_neg Bool.false_ne_true];refine wpAny_pure ⟨dn++[(hh,x)],ms5,by rw [e1,List.append_assoc];rfl,by rw [e2],sb.trans sb5,i5,fun y=>?_,by rw [List.length_append,List.length_singleton];omega⟩;rw [hm5,hm];constructor
   ·rintro ((z | ⟨e,he,rfl⟩) | rfl)
    ·exact .inl z
    ·exact .inr ⟨e,List.mem_append_left _ he,rfl⟩
    ·exact .inr ⟨(hh,x),by simp,rfl⟩
   ·rintro (z | ⟨e,he,rfl⟩)
    ·exact .inl (.inl z)
    ·rcases List.mem_append.mp he with z | z
     ·exact .inl (.inr ⟨e,z,rfl⟩)
     ·have:e=(hh,x):=by simpa using z
      subst this;exact .inr rfl
 ·rintro u s' ⟨dn,ms',e1,e2,sb,i4,hm,hle⟩
  rw [List.append_nil] at e1;rw [e2];refine wpAny_pure (h _ ms' sb i4 (fun x=>?_) ?_)
  ·rw [hm,<- e1,<- hel4.2.mem_iff,List.mem_map]
   exact or_congr Iff.rfl ⟨fun ⟨e,he,z⟩=>⟨e,he,z.symm⟩,fun ⟨e,he,z⟩=>⟨e,he,z.symm⟩⟩
  ·have:=congrArg List.length e1
   rw [hel4.len] at this;omega
def bZ (w:World):Obj:={ cls:=.type "set",dict:=none,data:=.set #[] 0 (.fresh 0 0 (!byT w)) }
theorem Mm {Q:Value->Shared->Prop}(h:Q (.ref s.heap.objs.size) { s with heap:=s.heap.push (bZ w) }):wpAny (model prog w) A (newSet (.type "set")) Q E s:=by
 unfold newSet;refine wpAny_bind (dL ?_)
 dsimp only
 simp only [newObj];exact wpAny_bind (wpAny_alloc (wpAny_pure h))
theorem Is.fresh (h:Heap):Is w (h.push (bZ w)) h.objs.size []:=by
 refine ⟨bZ w,#[],0,.fresh 0 0 (!byT w),Heap.get?_push_size _ rfl,⟨rfl,rfl,rfl⟩,rfl,⟨fun e he=>by simp at he,by simp⟩,List.nodup_nil,by decide,rfl,?_,.inl rfl⟩;cases byT w
 ·exact .inr rfl
 ·exact .inl rfl
theorem Fu {a:Addr}{n:Nat}{Q:Unit->Shared->Prop}(ho1:s.heap.get? a=some (bZ w))(hn:n<=128)
  (h:∀ (h3:Heap) (o3:Obj) (ep3:Nat) (t3:SetTable),Heap.SameBut a s.heap h3->h3.get? a=some o3->o3.ExactSet->o3.data = .set #[] ep3 t3->t3.place.size=0->t3.dummies = #[]->ST.rE (t3.mask+1)->n<=t3.mask->(byT w=true∨t3.led=true)->Q () { s with heap:=h3 }) :
  wpAny (model prog w) A (setRoomFor a n) Q E s:=by
 have hled:byT w=true∨(!byT w)=true:=by cases byT w <;> simp
 unfold setRoomFor;refine wpAny_bind (wpAny_setState_of ho1 rfl rfl ?_)
 dsimp only
 unfold SetTable.roomFor;by_cases hc:((SetTable.fresh 0 0 (!byT w)).fill+n)*5≥(SetTable.fresh 0 0 (!byT w)).mask*3
 ·rw [if_pos hc]
  refine xP (ms:=[]) ho1 rfl rfl (by show (0+n)*2<=256;omega) (Nat.zero_le _) fun es' t' p1 p2 p3 p4 p5 p6=>?_
  obtain rfl:es' = #[]:=by
   have:=p1.length_eq
   rw [Array.length_toList] at this;exact Array.eq_empty_of_size_eq_zero this
  obtain ⟨hM,hlt⟩:=pP ((0+n)*2) (by omega);have p3':t'.mask+1=SetTable.sizeAbove ((0+n)*2):=p3;have hg:(s.heap.update a (Obj.putSet #[] t')).get? a=some { bZ w with data:=.set #[] (0+1) t' }:=by
   have:=Heap.get?_update_self (Obj.putSet #[] t') ho1 (by rw [putSet_of (o:=bZ w) #[] t' rfl];rfl)
   rw [putSet_of (o:=bZ w) #[] t' rfl] at this;exact this
  exact h _ _ 1 t' (Heap.SameBut.update _ a _) hg ⟨rfl,rfl,rfl⟩ rfl p2 p4 (by rw [p3'];exact hM) (by omega) (hled.imp id fun z=>p5.trans z)
 ·rw [if_neg hc]
  have hc':¬ (0+n)*5≥7*3:=hc;exact wpAny_pure (h s.heap (bZ w) 0 _ (Heap.SameBut.refl a _) ho1 ⟨rfl,rfl,rfl⟩ rfl rfl rfl (.inl rfl) (by show n<=7;omega) hled)
theorem Dw {a b:Addr}{ms:List Str}{Q:Unit->Shared->Prop}(hab:a≠b)(ho1:s.heap.get? a=some (bZ w))(h2:Is w s.heap b ms)(hsz:ms.length<=128)
  (h:∀ h',Heap.SameBut a s.heap h'->Is w h' a ms->Q () { s with heap:=h' }):wpAny (model prog w) A (setMerge a b) Q E s:=by
 obtain ⟨o,es,ep,t,ho,hex,hd,hel,hnd,hb,hf,hl,hp⟩:=id h2;have hn:es.size=ms.length:=by rw [<- hel.len,Array.length_toList]
 have hled:byT w=true∨(!byT w)=true:=by cases byT w <;> simp
 unfold setMerge;rw [if_neg (show ¬ ((a==b)=true) by rw [beq_iff_eq];exact hab)];refine wpAny_bind (wpAny_setState_of ho hd hf ?_)
 dsimp only
 by_cases h0:es.isEmpty=true
 ·rw [if_pos h0]
  have e0:ms=[]:=List.length_eq_zero_iff.mp (by rw [<- hn];simpa using h0);subst e0;exact wpAny_pure (h s.heap (Heap.SameBut.refl a _) ⟨bZ w,#[],0,.fresh 0 0 (!byT w),ho1,⟨rfl,rfl,rfl⟩,rfl,⟨fun e he=>by simp at he,by simp⟩,List.nodup_nil,by decide,rfl,hled,.inl rfl⟩)
 rw [if_neg h0];have hpos:0<es.size:=by
  rcases Nat.eq_zero_or_pos es.size with z | z
  ·exact absurd (by simpa using z) h0
  ·exact z
 have hpl:t.plain=false:=hp.resolve_left (by omega);refine wpAny_bind (Fu ho1 (by omega) fun h3 o3 ep3 t3 sb3 ho3 hex3 hd3 hps hdu hM hle hld3=>?_);have hf3:t3.fits (#[]:Array (Int×Value)).size=true:=by
  simp only [SetTable.fits,Bool.and_eq_true,beq_iff_eq,decide_eq_true_eq,SetTable.fill,hdu];exact ⟨hps,by show t3.place.size+0<=t3.mask;omega⟩
 refine wpAny_bind (wpAny_setState_of (s:={ s with heap:=h3 }) ho3 hd3 hf3 ?_)
 dsimp only
 have hled3:byT w=true∨(t3.led&&t.led)=true:=by
  rcases hld3 with z | z
  ·exact .inl z
  ·rcases hl with y | y
   ·exact .inl y
   ·exact .inr (by rw [z,y];rfl)
 have hfill:(t3.fill != 0)=false:=by
  unfold SetTable.fill;rw [hps,hdu];rfl
 unfold SetTable.road;rw [hfill,if_neg Bool.false_ne_true];by_cases hm:(t3.mask==t.mask&&t.dummies.isEmpty)=true
 ·rw [if_pos hm]
  dsimp only
  refine wpAny_storeSet_of (s:={ s with heap:=h3 }) ho3 hd3 ?_ (fits_of_scanBound hb);exact h _ (sb3.trans (Heap.SameBut.update _ a _)) (Is.store prog (t':={ mask:=t.mask,place:=t.place,dummies:=t.dummies,finger:=t3.finger,led:=t3.led&&t.led,moves:=t3.moves,plain:=t3.plain&&t.plain }) ho3 hex3 hd3 hel hnd hb hf hled3 (.inr (by show (t3.plain&&t.plain)=false;rw [hpl,Bool.and_false]))).2
 ·rw [if_neg hm]
  dsimp only
  obtain ⟨t',order,e1,e2,e3,e4,e5,e6,e7⟩:=ST.As (finger:=t3.finger) (moves:=t3.moves) (led:=t3.led&&t.led) (plain:=t3.plain&&t.plain) (hashes:=es.map (·.1)) hM (by rw [Array.size_map];exact hle);rw [e1];rw [Array.size_map] at e2 e3;have hpm:=lX e2;have hsz':(order.filterMap (es[·]?)).size=es.size:=by rw [<- Array.length_toList,hpm.length_eq,Array.length_toList]
  refine wpAny_bind (m:=(do
   if ((order.filterMap (es[·]?)).size != es.size)=true then unsupported "internal:set-table-lost-an-element"
   pure (order.filterMap (es[·]?),t'))) ?_
  rw [hsz',bne_self_eq_false,if_neg Bool.false_ne_true];refine wpAny_pure ?_;refine wpAny_storeSet_of (s:={ s with heap:=h3 }) ho3 hd3 ?_ (by rw [hsz'];exact fits_of_scanBound hb);have hf':t'.fits (order.filterMap (es[·]?)).size=true:=by
   simp only [SetTable.fits,Bool.and_eq_true,beq_iff_eq,decide_eq_true_eq,SetTable.fill,e5];exact ⟨by omega,by show t'.place.size+0<=t'.mask;omega⟩
  exact h _ (sb3.trans (Heap.SameBut.update _ a _)) (Is.store prog ho3 hex3 hd3 (hel.perm hpm) hnd (by rw [hsz'];exact hb) hf' (by rw [e6];exact hled3) (.inr (by rw [e7,hpl,Bool.and_false]))).2
theorem Is.ty {a:Addr}{ms:List Str}(x:Is w s.heap a ms):s.TypeIs (.ref a) "set" := by
 obtain ⟨o,_,_,_,ho,hex,_⟩:=x;exact ⟨o,ho,hex.1⟩
theorem Kd {b:Addr}{ms:List Str}{Q:Value->Shared->Prop}(h2:Is w s.heap b ms)(hsz:ms.length<=128)
  (h:∀ h',(∀ x o,s.heap.get? x=some o->h'.get? x=some o)->Is w h' s.heap.objs.size ms->Q (.ref s.heap.objs.size) { s with heap:=h' }):wpAny (model prog w) A (Builtin.Frozenset.copyOf b) Q E s:=by
 unfold Builtin.Frozenset.copyOf Builtin.Frozenset.baseOf;refine wpAny_bind (wpAny_bind (wpAny_isInstance h2.ty sub_set_self (wpAny_pure ?_)));rw [if_pos rfl];refine wpAny_bind (Mm ?_);refine wpAny_bind (m:=Builtin.Frozenset.addrOf (.ref s.heap.objs.size)) (wpAny_pure ?_);obtain ⟨o,ho⟩:=h2.there;have hlt:=Heap.lt_size ho;refine wpAny_bind (Dw (s:={ s with heap:=s.heap.push (bZ w) }) (Nat.ne_of_gt hlt) (Heap.get?_push_size _ rfl) (h2.at fun o e=>Heap.get?_push_of_some _ e) hsz fun h' sb i=>wpAny_pure ?_);exact h h' (fun x o e=>(sb.2 x (Nat.ne_of_lt (Heap.lt_size e))).trans (Heap.get?_push_of_some _ e)) i
theorem Gi:entryFor table "set.__or__" = some Builtin.«frozenset.__or__» :=
 entryFor_alias (id' := "frozenset.__or__") (by kernel_rfl) (by first | rfl | decide +kernel | (unfold String.splitOn;simp +decide [String.splitOnAux])) (by decide +kernel) (by kernel_rfl)
theorem Og {a b:Addr}{ms1 ms2:List Str}{Q:Value->Shared->Prop}(hab:a≠b)(h1:Is w s.heap a ms1)(h2:Is w s.heap b ms2)(hne:ms1≠[])(hsz:ms1.length+ms2.length<=128)
  (h:∀ h' ms',(∀ x o,s.heap.get? x=some o->h'.get? x=some o)->Is w h' s.heap.objs.size ms'->(∀ x,x∈ms'↔x∈ms1∨x∈ms2)->ms'.length<=ms1.length+ms2.length->Q (.ref s.heap.objs.size) { s with heap:=h' }) :
  wpAny (model prog w) A (binaryOp .BitOr (.ref a) (.ref b)) Q E s:=by
 refine wpAny_binaryOp_same h1.ty h2.ty F.fills_set_or F.slot_set_or (wpAny_call_entry F.slot_set_or h1.ty Gi ?_ (F.args_set_or_2 _ _));refine wpAny_bind (m:=Builtin.Frozenset.slot1 "__or__" ⟨[.ref a,.ref b],[]⟩) (wpAny_pure (a:=(Value.ref a,Value.ref b)) ?_)
 dsimp only
 simp only [Bool.false_eq_true,↓reduceIte];have any:∀ (c:Addr) (ms:List Str) (A':Around) (s':Shared) (Q':Bool->Shared->Prop),Is w s'.heap c ms->Q' true s'->wpAny (model prog w) A' (Builtin.Frozenset.isAnySet (.ref c)) Q' E s':=fun c ms A' s' Q' hc hQ=>by
  unfold Builtin.Frozenset.isAnySet;refine wpAny_bind (m:=isInstance (.ref c) (.type "set")) (wpAny_isInstance hc.ty sub_set_self ?_)
  exact wpAny_pure hQ
 refine wpAny_bind (m:=Builtin.Frozenset.isAnySet (.ref a) <&&> Builtin.Frozenset.isAnySet (.ref b)) ?_;refine wpAny_bind (m:=Builtin.Frozenset.isAnySet (.ref a)) (any a ms1 _ s _ h1 ?_);refine any b ms2 _ s _ h2 ?_;simp only [Bool.not_true,Bool.false_eq_true,↓reduceIte];refine wpAny_bind (m:=Builtin.Frozenset.addrOf (.ref a)) (wpAny_pure ?_);refine wpAny_bind ?_;refine wpAny_bind (m:=Builtin.Frozenset.copyOf a) (Kd h1 (by omega) fun h3 kp3 i3=>?_);have hb:(Value.ref b != Value.ref a)=true:=by
  rw [bne_iff_ne];exact fun z=>hab (by cases z;rfl)
 have hlt:=Heap.lt_size h2.there.choose_spec;have h2':Is w h3 b ms2:=h2.at fun o e=>kp3 b o e
 have nb:s.heap.objs.size≠b:=Nat.ne_of_gt hlt;rw [hb,if_pos rfl];refine wpAny_bind (m:=holding [.ref s.heap.objs.size] (do Builtin.Frozenset.updateFrom _ (<- Builtin.Frozenset.addrOf (.ref s.heap.objs.size)) (.ref b))) (wpAny_holding ?_);refine wpAny_bind (m:=Builtin.Frozenset.addrOf (.ref s.heap.objs.size)) (wpAny_pure ?_);unfold Builtin.Frozenset.updateFrom;refine wpAny_bind (m:=Builtin.Frozenset.isAnySet (.ref b)) (any b ms2 _ { s with heap:=h3 } _ h2' ?_);rw [if_pos rfl];refine wpAny_bind (m:=Builtin.Frozenset.addrOf (.ref b)) (wpAny_pure ?_);unfold Builtin.Frozenset.merge;obtain ⟨o,es,ep,t,ho,hex,hd,hel,hnd,hbs,hf,hl,hp⟩:=id h2';refine wpAny_bind (wpAny_setEpoch_of (s:={ s with heap:=h3 }) ho hd hf ?_);refine Gf (s:={ s with heap:=h3 }) nb i3 h2' hne hsz (fun s' Q' keep hQ=>?_) fun h4 ms' sb4 i4 hm hle=>?_
 ·unfold Builtin.Frozenset.unchanged
  refine wpAny_bind (wpAny_setEpoch_of (s:=s') (keep o ho) hd hf ?_);rw [bne_self_eq_false,if_neg Bool.false_ne_true];exact wpAny_pure hQ
 ·refine wpAny_pure (wpAny_pure ⟨_,rfl,(by intro z;cases z),h h4 ms' (fun x o' e=>(sb4.2 x (Nat.ne_of_lt (Heap.lt_size e))).trans (kp3 x o' e)) i4 hm hle⟩)
end
theorem cS:Slot "set_iterator" "__next__" "set_iterator.__next__" :=
 .of (owner := "set_iterator") (n := "__next__") (by rw [typeLookup_type,builtinLookup_eq_fast];kernel_rfl) (by decide +kernel) (by decide +kernel) (by decide +kernel) (by first | exact .inl (by decide +kernel) | exact .inr (by decide +kernel)) (by rw [isSubtype_type];kernel_rfl)
theorem iW:entryFor table "set_iterator.__next__" = some Builtin.«set_iterator.__next__» := entryFor_of_tree (by kernel_rfl)
theorem jW (a:Value):argsOk "set_iterator.__next__" ⟨[a],[]⟩:=by unfold argsOk;kernel_rfl
theorem sV:Slot "set_iterator" "__iter__" "set_iterator.__iter__" :=
 .of (owner := "set_iterator") (n := "__iter__") (by rw [typeLookup_type,builtinLookup_eq_fast];kernel_rfl) (by decide +kernel) (by decide +kernel) (by decide +kernel) (by first | exact .inl (by decide +kernel) | exact .inr (by decide +kernel)) (by rw [isSubtype_type];kernel_rfl)
theorem Dh (a:Value):argsOk "set_iterator.__iter__" ⟨[a],[]⟩:=by unfold argsOk;kernel_rfl
theorem zF:entryFor table "set_iterator.__iter__" = some Builtin.«dict_keyiterator.__iter__» :=
 entryFor_alias (id' := "dict_keyiterator.__iter__") (by kernel_rfl) (by first | rfl | decide +kernel | (unfold String.splitOn;simp +decide [String.splitOnAux])) (by decide +kernel) (by kernel_rfl)
theorem qX:entryFor table "set.__iter__" = some Builtin.«frozenset.__iter__» :=
 entryFor_alias (id' := "frozenset.__iter__") (by kernel_rfl) (by first | rfl | decide +kernel | (unfold String.splitOn;simp +decide [String.splitOnAux])) (by decide +kernel) (by kernel_rfl)
def It (h:Heap)(I a:Addr)(first:Value)(i n ep:Nat):Prop:=∃ o,h.get? I=some o∧o.cls = .type "set_iterator" ∧ o.data = .fields #[first,rawInt (i:Int),.ref a,rawInt (n:Int),rawInt (ep:Int)]
theorem It.at {h h':Heap}{I a:Addr}{first:Value}{i n ep:Nat}(x:It h I a first i n ep)(e:∀ o,h.get? I=some o->h'.get? I=some o):It h' I a first i n ep:=let ⟨o,ho,r⟩:=x;⟨o,e _ ho,r⟩
section
variable {prog:Program}{w:World}{A:Around}{E:Value->Shared->Prop}{s:Shared}
theorem It.ty {I a:Addr}{first:Value}{i n ep:Nat}(x:It s.heap I a first i n ep):s.TypeIs (.ref I) "set_iterator" := let ⟨o,ho,hc,_⟩:=x;⟨o,ho,hc⟩
theorem At {α:Type}{I:Addr}{s0 s:Shared}{Q:Option Value->Shared->Prop}(hh:A.handled=none)(hQ:∀ h',(∀ b o,s.heap.get? b=some o->h'.get? b=some o)->Q none { s with heap:=h' }) :
  wpAny (model prog w) A.in1 (newExc (.type "StopIteration") [] >>= fun e=>(raiseNew e:Sem Fin)) (fun fin s'=>∃ v,fin = .done (.ret v)∧wpAny (model prog w) A (pure (some v)) Q E s')
   (fun e s'=>wpAny (model prog w) A (do if <- isInstance e (.type "StopIteration") then pure none else throw e) Q E s') s:=by
 refine wpAny_bind ?_;simp only [newExc,newTuple];refine wpAny_bind (wpAny_newObj_type ?_ (by size_fits));refine wpAny_bind (m:=firstArgMember _ _) (wpAny_of_eq (a:=Value.none) (by first | rfl | (simp only [firstArgMember];rfl)) ?_);refine wpAny_newObj_type ?_ (by size_fits);simp only [raiseNew];refine wpAny_bind (wpAny_handled ?_)
 first | rw [show A.in1.handled=none from hh] | rw [hh]
 refine wpAny_bind (wpAny_pure (wpAny_throw ?_));refine wpAny_bind (wpAny_isInstance (T := "StopIteration") (b:=true) ⟨_,Heap.get?_push_size _ rfl,rfl⟩ isSubtype_stop ?_)
 refine wpAny_pure (hQ _ fun b ob eb=>?_);exact Heap.get?_push_of_some _ (Heap.get?_push_of_some _ eb)
theorem Fl {I a:Addr}{o:Obj}{es:Array (Int×Value)}{ep i slot nx:Nat}{t:SetTable}{x:Value}{Q:Option Value->Shared->Prop}(hI:It s.heap I a (rawInt (slot:Int)) i es.size ep)(hne:a≠I)(ho:s.heap.get? a=some o)(hd:o.data = .set es ep t)(hf:t.fits es.size=true)
  (hN:∀ (A':Around) (E':Value->Shared->Prop) (Q':Option (Value×Nat)->Shared->Prop),Q' (some (x,nx)) s->wpAny (model prog w) A' (setNext a slot i ep) Q' E' s)
  (hQ:∀ h',It h' I a (rawInt (nx:Int)) (i+1) es.size ep->Heap.SameBut I s.heap h'->Q (some x) { s with heap:=h' }):wpAny (model prog w) A (pyNext (.ref I)) Q E s:=by
 obtain ⟨oi,hoi,hci,hdi⟩:=id hI;unfold pyNext;refine wpAny_bind (wpAny_attempt (wpAny_callSpecial?_slot (name:=Str.ofString "__next__") hI.ty cS (wpAny_call_entry cS hI.ty iW ?_ (jW _))))
 unfold Builtin.«set_iterator.__next__»;refine wpAny_bind (wpAny_of_eq (a:=(Value.ref I,[])) rfl ?_)
 try dsimp only
 refine wpAny_bind (wpAny_fieldsOf hoi hdi ?_)
 dsimp only [rawInt]
 refine wpAny_bind (wpAny_setEntries_of ho hd hf ?_);rw [if_neg (by simp)];refine wpAny_bind (m:=setNext a (slot:Int).toNat (i:Int).toNat (ep:Int).toNat) ?_;rw [Int.toNat_natCast,Int.toNat_natCast,Int.toNat_natCast];refine hN _ _ _ ?_
 dsimp only
 refine wpAny_bind (wpAny_setField hoi hdi (by simp) ?_);have h2:=Heap.get?_update_self (Obj.mapFields (·.setIfInBounds 0 (rawInt (nx:Int)))) hoi (Obj.isFreed_of_fields (Obj.data_mapFields hdi _));refine wpAny_bind (wpAny_setField h2 (Obj.data_mapFields hdi _) (by simp) ?_);refine wpAny_pure ⟨_,rfl,wpAny_pure (hQ _ ?_ ((Heap.SameBut.update ..).trans (Heap.SameBut.update ..)))⟩;exact ⟨_,Heap.get?_update_self _ h2 (Obj.isFreed_of_fields (Obj.data_mapFields (Obj.data_mapFields hdi _) _)),(Obj.cls_mapFields ..).trans ((Obj.cls_mapFields ..).trans hci),by rw [Obj.data_mapFields (Obj.data_mapFields hdi _)];simp [rawInt]⟩
theorem Ka {I a:Addr}{o:Obj}{es:Array (Int×Value)}{ep i slot:Nat}{t:SetTable}{Q:Option Value->Shared->Prop}(hh:A.handled=none)(hI:It s.heap I a (rawInt (slot:Int)) i es.size ep)(hne:a≠I)(ho:s.heap.get? a=some o)(hd:o.data = .set es ep t)(hf:t.fits es.size=true)
  (hN:∀ (A':Around) (E':Value->Shared->Prop) (Q':Option (Value×Nat)->Shared->Prop),Q' none s->wpAny (model prog w) A' (setNext a slot i ep) Q' E' s)
  (hQ:∀ h',Heap.ExtBut I s.heap h'->Q none { s with heap:=h' }):wpAny (model prog w) A (pyNext (.ref I)) Q E s:=by
 obtain ⟨oi,hoi,hci,hdi⟩:=id hI;unfold pyNext;refine wpAny_bind (wpAny_attempt (wpAny_callSpecial?_slot (name:=Str.ofString "__next__") hI.ty cS (wpAny_call_entry cS hI.ty iW ?_ (jW _))))
 unfold Builtin.«set_iterator.__next__»;refine wpAny_bind (wpAny_of_eq (a:=(Value.ref I,[])) rfl ?_)
 try dsimp only
 refine wpAny_bind (wpAny_fieldsOf hoi hdi ?_)
 dsimp only [rawInt]
 refine wpAny_bind (wpAny_setEntries_of ho hd hf ?_);rw [if_neg (by simp)];refine wpAny_bind (m:=setNext a (slot:Int).toNat (i:Int).toNat (ep:Int).toNat) ?_;rw [Int.toNat_natCast,Int.toNat_natCast,Int.toNat_natCast];refine hN _ _ _ ?_
 dsimp only
 refine wpAny_bind (wpAny_setField hoi hdi (by simp) ?_);refine wpAny_mono (At (α:=Unit) (I:=I) (s0:=s) (Q:=Q) (E:=E) hh fun h' kp=>hQ h' fun b ob hb eb=>kp b ob ((Heap.get?_update_other _ _ (Ne.symm hb)).trans eb)) (fun fin s' z=>z) fun e s' z=>z
theorem Ez {I a tp:Addr}{o ot:Obj}{es:Array (Int×Value)}{ep i p nt:Nat}{t:SetTable}{x:Int×Value}{ps:List Nat}{Q:Option Value->Shared->Prop}(hI:It s.heap I a (.ref tp) i es.size ep)(ho:s.heap.get? a=some o)(hd:o.data = .set es ep t)(hf:t.fits es.size=true)
  (hot:s.heap.get? tp=some ot) (hdt:ot.data = .seq (ps.map fun j:Nat=>rawInt (j:Int)).toArray nt) (hp:ps[i]?=some p) (hx:es[p]?=some x)
  (hQ:∀ h',It h' I a (.ref tp) (i+1) es.size ep->Heap.SameBut I s.heap h'->Q (some x.2) { s with heap:=h' }):wpAny (model prog w) A (pyNext (.ref I)) Q E s:=by
 obtain ⟨oi,hoi,hci,hdi⟩:=id hI;unfold pyNext;refine wpAny_bind (wpAny_attempt (wpAny_callSpecial?_slot (name:=Str.ofString "__next__") hI.ty cS (wpAny_call_entry cS hI.ty iW ?_ (jW _))))
 unfold Builtin.«set_iterator.__next__»;refine wpAny_bind (wpAny_of_eq (a:=(Value.ref I,[])) rfl ?_)
 try dsimp only
 refine wpAny_bind (wpAny_fieldsOf hoi hdi ?_)
 dsimp only [rawInt]
 refine wpAny_bind (wpAny_setEntries_of ho hd hf ?_);rw [if_neg (by simp)];refine wpAny_bind (wpAny_seqItems hot hdt ?_)
 dsimp only
 rw [Int.toNat_natCast,List.getElem?_toArray,List.getElem?_map,hp]
 dsimp only [Option.map,rawInt]
 refine wpAny_bind (m:=setNextDrawn a (p:Int).toNat (ep:Int).toNat) ?_;rw [Int.toNat_natCast,Int.toNat_natCast];unfold setNextDrawn;refine wpAny_bind (wpAny_setState_of ho hd hf ?_)
 dsimp only
 rw [bne_self_eq_false,if_neg Bool.false_ne_true,hx];refine wpAny_pure ?_;refine wpAny_bind (wpAny_setField hoi hdi (by simp) ?_);refine wpAny_pure ⟨_,rfl,wpAny_pure (hQ _ ?_ (Heap.SameBut.update ..))⟩;exact ⟨_,Heap.get?_update_self _ hoi (Obj.isFreed_of_fields (Obj.data_mapFields hdi _)),(Obj.cls_mapFields ..).trans hci,by rw [Obj.data_mapFields hdi];simp [rawInt]⟩
theorem Ip {I a tp:Addr}{o ot:Obj}{es:Array (Int×Value)}{ep i nt:Nat}{t:SetTable}{ps:List Nat}{Q:Option Value->Shared->Prop}(hh:A.handled=none)(hI:It s.heap I a (.ref tp) i es.size ep)(ho:s.heap.get? a=some o)(hd:o.data = .set es ep t)(hf:t.fits es.size=true)
  (hot:s.heap.get? tp=some ot) (hdt:ot.data = .seq (ps.map fun j:Nat=>rawInt (j:Int)).toArray nt) (hp:ps[i]?=none)
  (hQ:∀ h',Heap.ExtBut I s.heap h'->Q none { s with heap:=h' }):wpAny (model prog w) A (pyNext (.ref I)) Q E s:=by
 obtain ⟨oi,hoi,hci,hdi⟩:=id hI;unfold pyNext;refine wpAny_bind (wpAny_attempt (wpAny_callSpecial?_slot (name:=Str.ofString "__next__") hI.ty cS (wpAny_call_entry cS hI.ty iW ?_ (jW _))))
 unfold Builtin.«set_iterator.__next__»;refine wpAny_bind (wpAny_of_eq (a:=(Value.ref I,[])) rfl ?_)
 try dsimp only
 refine wpAny_bind (wpAny_fieldsOf hoi hdi ?_)
 dsimp only [rawInt]
 refine wpAny_bind (wpAny_setEntries_of ho hd hf ?_);rw [if_neg (by simp)];refine wpAny_bind (wpAny_seqItems hot hdt ?_)
 dsimp only
 rw [Int.toNat_natCast,List.getElem?_toArray,List.getElem?_map,hp]
 dsimp only [Option.map]
 refine wpAny_bind (wpAny_setField hoi hdi (by simp) ?_);have h2:=Heap.get?_update_self (Obj.mapFields (·.setIfInBounds 0 (rawInt 0))) hoi (Obj.isFreed_of_fields (Obj.data_mapFields hdi _));refine wpAny_bind (wpAny_setField h2 (Obj.data_mapFields hdi _) (by simp) ?_);refine wpAny_mono (At (α:=Unit) (I:=I) (s0:=s) (Q:=Q) (E:=E) hh fun h' kp=>hQ h' fun b ob hb eb=>kp b ob ((Heap.get?_update_other _ _ (Ne.symm hb)).trans ((Heap.get?_update_other _ _ (Ne.symm hb)).trans eb))) (fun fin s' z=>z) fun e s' z=>z
theorem Am {I a:Addr}{first:Value}{i n ep:Nat}{Q:Value->Shared->Prop}(hI:It s.heap I a first i n ep)(h:Q (.ref I) s):wpAny (model prog w) A (pyIter (.ref I)) Q E s:=by
 refine wpAny_pyIter_slot hI.ty sV (wpAny_call_entry sV hI.ty zF ?_ (Dh _));show wpAny _ _ (ret (.ref I)) _ _ s;exact wpAny_pure ⟨_,rfl, "set_iterator",_,hI.ty,cS.lookup,h⟩
theorem uL {M:Model}{src:Source}{n:Nat}{Q:Nat->Shared->Prop}(hn:n≠0)(h:∀ i d,i<n->Q i { s with drawn:=d }):wpAny M A (choose src n) Q E s:=fun Γ p hΓ=>⟨hn,h _ _ (Nat.mod_lt _ (Nat.pos_of_ne_zero hn))⟩
theorem Aw {α:Type}:∀ (xs:List α) (s:Shared) (Q:List α->Shared->Prop),(∀ ys d,ys.Perm xs->Q ys { s with drawn:=d })->wpAny (model prog w) A (drawOrder xs.length xs) Q E s:=by
 intro xs;generalize hn:xs.length=n
 induction n generalizing xs with
 | zero =>
  intro s Q h;obtain rfl:=List.length_eq_zero_iff.mp hn;rw [drawOrder];exact wpAny_pure (h [] s.drawn (List.Perm.refl _))
 | succ n ih =>
  intro s Q h
  cases xs with
  | nil=>cases hn
  | cons x xs =>
   rw [drawOrder]
   rotate_left
   ·intro z
    cases z
   refine wpAny_bind (uL (by simp) fun i d hi=>?_);rw [List.getElem?_eq_getElem hi]
   dsimp only
   refine wpAny_bind (ih ((x::xs).eraseIdx i) (by rw [List.length_eraseIdx_of_lt hi,hn];rfl) _ _ fun ys d2 hp=>wpAny_pure ?_);exact h _ d2 ((hp.cons _).trans (lA _ i hi))
end
theorem vW {prog:Program}{w:World}{A:Around}{a I:Addr}{o:Obj}{es:Array (Int×Value)}{ep:Nat}{t:SetTable}{L:List (Int×Value)}{slots:Nat->Nat}(hh:A.handled=none)(hne:a≠I)(hd:o.data = .set es ep t)(hf:t.fits es.size=true)
  (hN:∀ (i:Nat) (s:Shared) (A':Around) (E':Value->Shared->Prop) (Q':Option (Value×Nat)->Shared->Prop),s.heap.get? a=some o->i<=L.length->Q' ((L[i]?).map fun e=>(e.2,slots (i+1))) s->wpAny (model prog w) A' (setNext a (slots i) i ep) Q' E' s) :
  Walks prog w A I [I,a] [I] L.length (fun i v=>(L.map (·.2))[i]?=some v) (fun i h=>h.get? a=some o∧It h I a (rawInt (slots i:Int)) i es.size ep) where
 sub:=fun b hb=>by simp at hb;simp [hb]
 frame:=fun _ _ _ y hk=>⟨hk a (by simp) o y.1,y.2.at fun o e=>hk I (by simp) o e⟩
 item:=fun i s Q E hi y hQ=>by
  refine Fl (x:=L[i].2) (nx:=slots (i+1)) y.2 hne y.1 hd hf (fun A' E' Q' q=>hN i s A' E' Q' y.1 (by omega) ?_) fun h' hit hs=>?_
  ·rw [List.getElem?_eq_getElem hi]
   exact q
  ·exact hQ _ h' s.toks (by rw [List.getElem?_map,List.getElem?_eq_getElem hi];rfl) ⟨(hs.2 a hne).trans y.1,hit⟩ fun b o hb eo=>hs.extBut b o (fun h=>hb (by simp [h])) eo
 done:=fun s Q E y hQ=>by
  refine Ka hh y.2 hne y.1 hd hf (fun A' E' Q' q=>hN L.length s A' E' Q' y.1 (Nat.le_refl _) ?_) fun h' he=>hQ h' s.toks fun b o hb eo=>he b o (fun h=>hb (by simp [h])) eo
  rw [List.getElem?_eq_none (Nat.le_refl _)];exact q
 self:=fun _ _ _ _ y hQ=>Am y.2 hQ
theorem wZ {prog:Program}{w:World}{A:Around}{a I tp:Addr}{o ot:Obj}{es:Array (Int×Value)}{ep nt:Nat}{t:SetTable}{ps:List Nat}(hh:A.handled=none)(hne:a≠I)(hnt:tp≠I)(hd:o.data = .set es ep t)(hf:t.fits es.size=true)
  (hdt:ot.data = .seq (ps.map fun j:Nat=>rawInt (j:Int)).toArray nt) (hps:∀ p∈ps,p<es.size) :
  Walks prog w A I [I,a,tp] [I] ps.length (fun i v=>(ps.map fun p=>(es.getD p (0,.none)).2)[i]?=some v) (fun i h=>h.get? a=some o∧h.get? tp=some ot∧It h I a (.ref tp) i es.size ep) where
 sub:=fun b hb=>by simp at hb;simp [hb]
 frame:=fun _ _ _ y hk=>⟨hk a (by simp) o y.1,hk tp (by simp) ot y.2.1,y.2.2.at fun o e=>hk I (by simp) o e⟩
 item:=fun i s Q E hi y hQ=>by
  have hp:ps[i]?=some ps[i]:=List.getElem?_eq_getElem hi;have hlt:=hps _ (List.getElem_mem hi);have hx:es[ps[i]]?=some (es[ps[i]]'hlt):=Array.getElem?_eq_getElem hlt;refine Ez y.2.2 y.1 hd hf y.2.1 hdt hp hx fun h' hit hs=>?_
  refine hQ _ h' s.toks ?_ ⟨(hs.2 a hne).trans y.1,(hs.2 tp hnt).trans y.2.1,hit⟩ fun b o hb eo=>hs.extBut b o (fun h=>hb (by simp [h])) eo
  rw [List.getElem?_map,hp];show some (es.getD ps[i] (0,Value.none)).2=_;rw [Array.getD_eq_getD_getElem?,hx];rfl
 done:=fun s Q E y hQ=>Ip hh y.2.2 y.1 hd hf y.2.1 hdt (List.getElem?_eq_none (Nat.le_refl _)) fun h' he=>hQ h' s.toks fun b o hb eo=>he b o (fun h=>hb (by simp [h])) eo
 self:=fun _ _ _ _ y hQ=>Am y.2.2 hQ
theorem wX {w:World}:∀ L:List (Int×Value),(∀ e∈L,El w e)->StrsAre (L.map (·.2)) (L.map fun e=>gT e.2)
 | [],_=>.nil
 | e::L,h=>by
  obtain ⟨_,tk,q⟩:=h e (List.mem_cons_self ..);rw [List.map_cons,List.map_cons];have r:=wX L fun x hx=>h x (List.mem_cons_of_mem _ hx)
  have z:StrsAre (Value.str (gT e.2) tk::L.map (·.2)) (gT e.2::L.map fun e=>gT e.2):=.cons _ _ r;rw [<- q] at z;exact z
section
variable {prog:Program}{w:World}{A:Around}{E:Value->Shared->Prop}{s:Shared}
theorem vE {a:Addr}{ms:List Str}{Q:Value->Shared->Prop}(hS:Is w s.heap a ms)
  (h:∀ (h':Heap) (d:Drawn) (I:Addr) (fp:List Addr) (xs:List Value) (ss:List Str) (St:Nat->Heap->Prop),(∀ A':Around,A'.handled=none->Walks prog w A' I fp [I] xs.length (fun i v=>xs[i]?=some v) St)->St 0 h' ->
   (∀ b o,s.heap.get? b=some o->h'.get? b=some o)->s.heap.objs.size<=I->(∀ b∈fp,b=a∨s.heap.objs.size<=b)->StrsAre xs ss->ss.Perm ms->Q (.ref I) { s with heap:=h',drawn:=d }) :
  wpAny (model prog w) A (pyIter (.ref a)) Q E s:=by
 obtain ⟨o,es,ep,t,ho,hex,hd,hel,hnd,hb,hf,hl,hp⟩:=id hS;have hlt:=Heap.lt_size ho;have hps:t.place.size=es.size:=by
  simp only [SetTable.fits,Bool.and_eq_true,beq_iff_eq] at hf;exact hf.1
 refine wpAny_pyIter_slot hS.ty F.slot_set_iter (wpAny_call_entry F.slot_set_iter hS.ty qX ?_ (F.args_set_iter_1 _));unfold Builtin.«frozenset.__iter__»;refine wpAny_bind (m:=Builtin.Frozenset.slot0 "__iter__" ⟨[.ref a],[]⟩) (wpAny_of_eq (a:=a) rfl ?_)
 unfold Builtin.Frozenset.sizeOf;refine wpAny_bind (wpAny_bind (wpAny_setEntries_of ho hd hf (wpAny_pure ?_)));have hlist:∀ L:List (Int×Value),L.Perm es.toList->StrsAre (L.map (·.2)) (L.map fun e=>gT e.2)∧(L.map fun e=>gT e.2).Perm ms:=fun L hp=>⟨wX L (hel.perm hp).1,(hel.perm hp).2⟩
 have fin:∀ (L:List (Int×Value)) (slots:Nat->Nat),slots 0=0->L.Perm es.toList->(∀ (i:Nat) (s:Shared) (A':Around) (E':Value->Shared->Prop) (Q':Option (Value×Nat)->Shared->Prop),s.heap.get? a=some o->i<=L.length->Q' ((L[i]?).map fun e=>(e.2,slots (i+1))) s->wpAny (model prog w) A' (setNext a (slots i) i ep) Q' E' s) ->
   wpAny (model prog w) A.in1 (setEpoch a >>= fun e=>newFields "set_iterator" [rawInt 0,rawInt 0,.ref a,rawInt (es.size:Int),rawInt (e:Int)] >>= ret) (fun fin s'=>∃ v,fin = .done (.ret v)∧∃ (T:String) (r:Value),s'.TypeIs v T∧typeLookup (.type T) "__next__" = pure (some r)∧Q v s') E s:=fun L slots h0 hL hN=>by
  refine wpAny_bind (wpAny_setEpoch_of ho hd hf ?_);have hI:It (s.heap.push { cls:=.type "set_iterator",data:=.fields #[rawInt 0,rawInt 0,.ref a,rawInt (es.size:Int),rawInt (ep:Int)] }) s.heap.objs.size a (rawInt (slots 0:Int)) 0 es.size ep:=⟨_,Heap.get?_push_size _ rfl,rfl,by rw [h0];rfl⟩
  obtain ⟨q1,q2⟩:=hlist L hL;refine wpAny_bind (wpAny_newObj_type (wpAny_pure ⟨_,rfl, "set_iterator",_,⟨_,Heap.get?_push_size _ rfl,rfl⟩,cS.lookup,?_⟩))
  have z:=h (s.heap.push { cls:=.type "set_iterator",data:=.fields #[rawInt 0,rawInt 0,.ref a,rawInt (es.size:Int),rawInt (ep:Int)] }) s.drawn s.heap.objs.size [s.heap.objs.size,a] (L.map (·.2)) _ (fun i h=>h.get? a=some o∧It h s.heap.objs.size a (rawInt (slots i:Int)) i es.size ep) (fun A' hA'=>by
     rw [List.length_map];exact vW hA' (Nat.ne_of_lt hlt) hd hf hN) ⟨Heap.get?_push_of_some _ ho,hI⟩ (fun b o e=>Heap.get?_push_of_some _ e) (Nat.le_refl _) (fun b hb=>by
     rcases List.mem_cons.mp hb with rfl | hb
     · exact .inr (Nat.le_refl _)
     · exact .inl (List.mem_singleton.mp hb)) q1 q2
  exact z
 have hdrw:∀ (Q':Bool->Shared->Prop),Q' (!byT w&&(!t.plain&&decide (es.size>1))) s->wpAny (model prog w) A.in1 (setDrawn a) Q' E s:=fun Q' q=>by
  unfold setDrawn;refine wpAny_bind (wpAny_setState_of ho hd hf ?_)
  dsimp only
  exact wpAny_bind (dL (wpAny_pure q))
 refine wpAny_bind (hdrw _ ?_);by_cases hby:byT w=true
 ·rw [hby]
  simp only [Bool.not_true,Bool.false_and,Bool.false_eq_true,↓reduceIte];refine wpAny_bind (wpAny_pure ?_);refine fin (pickOrder (w.params.setOrder a ep) es).toList (fun _=>0) rfl (mH _ _) fun i s' A' E' Q' ho' hi q=>?_
  unfold setNext;refine wpAny_bind (wpAny_setState_of ho' hd hf ?_)
  dsimp only
  refine wpAny_bind (dL ?_);rw [hby,if_pos rfl,bne_self_eq_false,if_neg Bool.false_ne_true];unfold setWalk;refine wpAny_bind (wpAny_bind (wpAny_setState_of ho' hd hf ?_))
  dsimp only
  refine wpAny_bind (dL ?_);rw [hby,if_pos rfl];refine wpAny_bind (wpAny_askSetting (wpAny_pure (wpAny_pure ?_)));rw [Array.getElem?_toList] at q;exact q
 ·have hbf:byT w=false:=Bool.eq_false_iff.mpr hby
  have hld:t.led=true:=hl.resolve_left hby;by_cases h1:es.size<=1
  ·have hnot:(!byT w&&(!t.plain&&decide (es.size>1)))=false:=by rw [decide_eq_false (by omega)];simp
   rw [hnot];simp only [Bool.false_eq_true,↓reduceIte];refine wpAny_bind (wpAny_pure ?_);have hN:∀ (slot i:Nat) (s':Shared) (A':Around) (E':Value->Shared->Prop) (Q':Option (Value×Nat)->Shared->Prop),s'.heap.get? a=some o ->
       Q' (match es[SetTable.below t.place slot]?,t.place[SetTable.below t.place slot]? with | some (_,x),some j=>some (x,j+1) | _,_=>none) s'->wpAny (model prog w) A' (setNext a slot i ep) Q' E' s':=fun slot i s' A' E' Q' ho' q=>by
     unfold setNext;refine wpAny_bind (wpAny_setState_of ho' hd hf ?_)
     dsimp only
     refine wpAny_bind (dL ?_);rw [hbf,if_neg Bool.false_ne_true];have hdr:(!t.plain&&decide (es.size>1))=false:=by rw [decide_eq_false (by omega)];simp
     show wpAny _ _ (if (!t.plain&&decide (es.size>1))=true then _ else _) _ _ s';rw [hdr,if_neg Bool.false_ne_true];refine wpAny_bind (m:=if (!t.led && !es.isEmpty)=true then unsupported "set:maker-not-led" else pure ()) ?_
     rw [hld];simp only [Bool.not_true,Bool.false_and,Bool.false_eq_true,↓reduceIte];exact wpAny_pure (wpAny_pure q)
   by_cases h0:es.size=0
   · have ee:es = #[]:=Array.eq_empty_of_size_eq_zero h0
     refine fin [] (fun _=>0) rfl (by rw [ee]) fun i s' A' E' Q' ho' hi q=>hN 0 i s' A' E' Q' ho' ?_
     rw [ee,Array.getElem?_eq_none (by simp)];exact q
   · obtain ⟨e0,he0⟩:∃ e0,es = #[e0]:=by
       obtain ⟨l⟩:=es
       match l,h0,h1 with
       | [e0],_,_=>exact ⟨e0,rfl⟩
       | [],h,_=>exact absurd rfl h
       | _::_::_,_,h=>simp at h
     obtain ⟨j,hj⟩:∃ j,t.place = #[j]:=by
       rw [he0] at hps
       cases hpl:t.place with
       | mk l =>
         rw [hpl] at hps
         match l,hps with
         | [j],_=>exact ⟨j,rfl⟩
     refine fin [e0] (fun i=>if i=0 then 0 else j+1) rfl (by rw [he0]) fun i s' A' E' Q' ho' hi q=>hN _ i s' A' E' Q' ho' ?_
     have b0:SetTable.below #[j] 0=0:=by
       simp [SetTable.below,SetTable.below.go]
     have b1:SetTable.below #[j] (j+1)=1:=by
       simp [SetTable.below,SetTable.below.go]
     match i,hi with
     | 0,_ =>
       rw [if_pos rfl,hj,b0,he0];exact q
     | 1,_ =>
       rw [if_neg (by decide),hj,b1,he0];exact q
  ·have hpl:t.plain=false:=hp.resolve_left (by omega)
   have hyes:(!byT w&&(!t.plain&&decide (es.size>1)))=true:=by rw [hbf,hpl,decide_eq_true (by omega)];rfl
   rw [hyes,if_pos rfl];have hr:(List.range es.size).length=es.size:=List.length_range;refine wpAny_bind (m:=drawOrder es.size (List.range es.size)) ?_;have dr:=Aw (prog:=prog) (w:=w) (A:=A.in1) (E:=E) (List.range es.size) s;rw [hr] at dr;refine dr _ fun ps d hpp=>?_
   have hpl:ps.length=es.size:=by rw [hpp.length_eq,hr]
   have hs:sizeLine=16777216:=sizeLine_eq;have sb:scanBound=4096:=rfl;refine wpAny_bind (wpAny_newTuple ?_ (by rw [List.length_map];omega));generalize hot:({ cls:=.type "tuple",data:=.seq (ps.map fun j:Nat=>rawInt (j:Int)).toArray }:Obj)=ot
   have hg:(s.heap.push ot).get? s.heap.objs.size=some ot:=Heap.get?_push_size _ (by rw [<- hot];rfl);have ho2:(s.heap.push ot).get? a=some o:=Heap.get?_push_of_some _ ho;refine wpAny_bind (wpAny_setEpoch_of (s:={ s with heap:=s.heap.push ot,drawn:=d }) ho2 hd hf ?_);refine wpAny_bind (wpAny_newObj_type (wpAny_pure ⟨_,rfl, "set_iterator",_,⟨_,Heap.get?_push_size _ rfl,rfl⟩,cS.lookup,?_⟩))
   have hsz:(s.heap.push ot).objs.size=s.heap.objs.size+1:=Heap.size_push _ _;have hfm:(ps.map fun p=>es.getD p (0,Value.none)).Perm es.toList:=by
     have e1:(List.range es.size).map (fun p=>es.getD p (0,Value.none))=es.toList:=by
       apply List.ext_getElem
       · simp
       · intro i g1 g2
         have g3:i<es.size:=by simpa using g1
         simp [Array.getD_eq_getD_getElem?,g3]
     exact (hpp.map _).trans (by rw [e1])
   obtain ⟨q1,q2⟩:=hlist _ hfm;rw [List.map_map,List.map_map] at q1;rw [List.map_map] at q2;have hps':∀ p∈ps,p<es.size:=fun p hp=>List.mem_range.mp (hpp.mem_iff.mp hp)
   have hgo:∀ (o2:Obj),o2 = { cls:=.type "set_iterator",data:=.fields #[.ref s.heap.objs.size,rawInt 0,.ref a,rawInt (es.size:Int),rawInt (ep:Int)] }->Q (.ref (s.heap.objs.size+1)) { s with heap:=(s.heap.push ot).push o2,drawn:=d }:=fun o2 ho2'=>by
    refine h ((s.heap.push ot).push o2) d (s.heap.objs.size+1) [s.heap.objs.size+1,a,s.heap.objs.size] (ps.map fun p=>(es.getD p (0,Value.none)).2) _ (fun i h=>h.get? a=some o∧h.get? s.heap.objs.size=some ot∧It h (s.heap.objs.size+1) a (.ref s.heap.objs.size) i es.size ep) (fun A' hA'=>by
        rw [List.length_map];exact wZ (ot:=ot) (nt:=0) hA' (Nat.ne_of_lt (Nat.lt_succ_of_lt hlt)) (Nat.ne_of_lt (Nat.lt_succ_self _)) hd hf (by rw [<- hot]) hps') ⟨Heap.get?_push_of_some _ ho2,Heap.get?_push_of_some _ hg,?_⟩ (fun b o e=>Heap.get?_push_of_some _ (Heap.get?_push_of_some _ e)) (Nat.le_succ _) (fun b hb=>?_) q1 q2
    · rw [<- hsz]
      exact ⟨o2,Heap.get?_push_size _ (by rw [ho2'];rfl),by rw [ho2'],by rw [ho2'];rfl⟩
    · rcases List.mem_cons.mp hb with rfl | hb
      · exact .inr (Nat.le_succ _)
      · rcases List.mem_cons.mp hb with rfl | hb
        · exact .inl rfl
        · exact .inr (Nat.le_of_eq (List.mem_singleton.mp hb).symm)
   have z:=hgo _ rfl;rw [<- hsz] at z;exact z
end
theorem xA {xs:List Value}{acc:Array Value}(h:ItemsOf (fun i v=>xs[i]?=some v) acc xs.length):acc.toList=xs:=by
 apply List.ext_getElem?;intro i;rw [Array.getElem?_toList]
 cases e:acc[i]? with
 | some v=>exact (h.2 i v e).symm
 | none =>
  have:acc.size<=i:=by
   rcases Nat.lt_or_ge i acc.size with z | z
   ·rw [Array.getElem?_eq_getElem z] at e;cases e
   ·exact z
  rw [List.getElem?_eq_none (by rw [<- h.1];exact this)]
section
variable {prog:Program}{w:World}{A:Around}{E:Value->Shared->Prop}{s:Shared}
theorem tS {a:Addr}{ms:List Str}{Q:Bool->Shared->Prop}(hS:Is w s.heap a ms)(h:Q false s):wpAny (model prog w) A (Builtin.List.listLengthHint (.ref a)) Q E s:=by
 unfold Builtin.List.listLengthHint;refine wpAny_bind (wpAny_specialOf hS.ty F.slot_set_len.lookup ?_);generalize hid:("set.__len__" : String)=id0
 wp_delta
 rw [show splitId id0=some ("set", "__len__") from by subst hid;decide +kernel]
 subst hid;refine wpAny_bind (wpAny_isInstance (T := "set") (b:=true) hS.ty sub_set_self ?_)
 refine wpAny_ite_split (fun hab=>absurd hab (by decide)) (fun _=>?_);refine wpAny_ite_split (fun _=>?_) (fun hab=>absurd (by decide +kernel) hab);refine wpAny_bind (wpAny_typeOf hS.ty ?_);exact wpAny_pure h
theorem nG {a:Addr}{ms:List Str}{R:Result->Shared->Prop}(hh:A.handled=none)(hS:Is w s.heap a ms)(hz:ms.length<=sizeLine)(S:Addr)(res:Value)(h1:S≠a)(hSl:s.heap.get? S=some { cls:=.type "list",data:=.seq #[] })
  (hR:∀ s' acc' c' ss,(∀ b o,b≠S->s.heap.get? b=some o->s'.heap.get? b=some o)->s'.gens=s.gens->s'.os=s.os->s'.heap.get? S=some { cls:=.type "list",dict:=none,data:=.seq acc' c',slots:=#[] }->StrsAre acc'.toList ss->ss.Perm ms->R (.ok (.ret res)) s') :
  wpAny (model prog w) A.in1 (Builtin.List.listExtendWith (.ref S) (.ref a) res)
   (fun fin s'=>match fin with | .done f=>R (.ok f) s' | .again c'=>c'.quiet=true∧codeAny (model prog w) A c' R s') (fun e s'=>R (.error e) s') s:=by
 unfold Builtin.List.listExtendWith;refine wpAny_bind (wpAny_typeOf hS.ty ?_);have g1:Builtin.List.listSameRef (.ref S) (.ref a)=false:=by simp [Builtin.List.listSameRef,h1]
 have g2:(Value.type "set" == Value.type "list")=false:=by decide
 have g3:(Value.type "set" == Value.type "tuple")=false:=by decide
 simp only [g1,g2,g3,Bool.or_false,Bool.false_eq_true,if_false];refine wpAny_bind (vE (A:=A.in1) hS fun h2 d I fp xs ss St W st0 kp hIs hfp hss hpm=>?_);have hlt:=Heap.lt_size hSl;have hSI:S≠I:=Nat.ne_of_lt (Nat.lt_of_lt_of_le hlt hIs);have hSf:S∉fp:=fun z=>by
  rcases hfp S z with e | e
  ·exact h1 e
  ·exact absurd hlt (Nat.not_lt.mpr e)
 have hS2:Is w h2 a ms:=hS.at fun o e=>kp a o e
 refine wpAny_bind (wpAny_holding (tS (s:={ s with heap:=h2,drawn:=d }) hS2 ?_));have WS:=(W A.in1 hh).toS;have hxl:xs.length=ms.length:=by rw [hss.length,hpm.length_eq]
 have last:∀ (h0:Heap) (c0:Nat),(∀ b o,b≠S->h2.get? b=some o->h0.get? b=some o)->h0.get? S=some { cls:=.type "list",data:=.seq #[] c0 } ->
   wpAny (model prog w) A.in1 (again (.builtin "list.extend.loop" ⟨[.ref S,.ref I,res],[]⟩))
    (fun fin s'=>match fin with | .done f=>R (.ok f) s' | .again c'=>c'.quiet=true∧codeAny (model prog w) A c' R s') (fun e s'=>R (.error e) s') { s with heap:=h0,drawn:=d }:=fun h0 c0 hk0 hS0=>by
  refine wpAny_pure ⟨plainId_quiet F.plain_extend_loop _,codeAny_extend_loopS WS (by omega) S hSf res xs.length 0 _ #[] c0 rfl (Nat.zero_le _) ?_ hS0 (ItemsOf.nil _) fun s' acc' c' hm hS' hacc=>?_⟩
  ·exact (W A.in1 hh).frame 0 h2 h0 st0 fun b hb o e=>hk0 b o (fun z=>hSf (z▸hb)) e
  ·refine hR s' acc' c' ss (fun b o hb e=>?_) hm.gens hm.os hS' (by rw [xA hacc];exact hss) hpm
   by_cases hbI:b=I
   ·subst hbI
    exact absurd (Heap.lt_size e) (Nat.not_lt.mpr hIs)
   ·exact hm.heap b o (by simp [hb,hbI]) (hk0 b o hb (kp b o e))
 refine wpAny_ite_split (fun _=>?_) (fun hab=>absurd (by decide +kernel) hab);refine wpAny_bind (wpAny_rule ?_);have hSl2:h2.get? S=some { cls:=.type "list",data:=.seq #[] }:=kp S _ hSl
 refine wpAny_bind (m:=((do updateSeq S (fun z=>z.push .none);updateSeq S (fun z=>z.pop)):Sem Unit)) (wpAny_bind (wpAny_updateSeq (s:={ s with heap:=h2,drawn:=d }) hSl2 rfl ?_));have k1:=Heap.get?_update_self (Obj.mapSeq (fun z=>z.push .none)) hSl2 rfl;refine wpAny_updateSeq k1 rfl ?_;have k2:=Heap.get?_update_self (Obj.mapSeq (fun z=>z.pop)) k1 rfl;exact last _ _ (fun b o hb e=>(Heap.get?_update_other _ _ (Ne.symm hb)).trans ((Heap.get?_update_other _ _ (Ne.symm hb)).trans e)) k2
theorem lD {a:Addr}{ms:List Str}{Q:List Value->Shared->Prop}(hh:A.handled=none)(hS:Is w s.heap a ms)(hz:ms.length<=sizeLine)
  (hQ:∀ s' vs ss,(∀ b o,s.heap.get? b=some o->s'.heap.get? b=some o)->s'.gens=s.gens->s'.os=s.os->StrsAre vs ss->ss.Perm ms->Q vs s'):wpAny (model prog w) A (collect (.ref a)) Q E s:=by
 have hlt:=Heap.lt_size hS.there.choose_spec;unfold collect;refine wpAny_bind (wpAny_runValue (codeAny_builtin F.entry_proto_collect ?_));rw [Around.under_plainId F.plain_proto_collect];refine wpAny_bind (m:=newList []) (wpAny_newObj_type (wpAny_pure ⟨plainId_quiet F.plain_list_iadd _,codeAny_builtin F.entry_list_iadd ?_⟩));rw [Around.under_plainId F.plain_list_iadd];have hSl:(s.heap.push { cls:=.type "list",data:=.seq #[] }).get? s.heap.objs.size=some { cls:=.type "list",data:=.seq #[] }:=Heap.get?_push_size _ rfl
 have go:∀ R:Result->Shared->Prop,(∀ s' acc' c' ss,(∀ b o,s.heap.get? b=some o->s'.heap.get? b=some o)->s'.gens=s.gens->s'.os=s.os->s'.heap.get? s.heap.objs.size=some { cls:=.type "list",dict:=none,data:=.seq acc' c',slots:=#[] }->StrsAre acc'.toList ss->ss.Perm ms->R (.ok (.ret (.ref s.heap.objs.size))) s') ->
   wpAny (model prog w) A.in1 (Builtin.List.listExtendWith (.ref s.heap.objs.size) (.ref a) (.ref s.heap.objs.size))
    (fun fin s'=>match fin with | .done f=>R (.ok f) s' | .again c'=>c'.quiet=true∧codeAny (model prog w) A c' R s') (fun e s'=>R (.error e) s') { s with heap:=s.heap.push { cls:=.type "list",data:=.seq #[] } }:=fun R hR =>
  nG (A:=A) (s:={ s with heap:=s.heap.push { cls:=.type "list",data:=.seq #[] } }) hh (hS.at fun o e=>Heap.get?_push_of_some _ e) hz s.heap.objs.size (.ref s.heap.objs.size) (Nat.ne_of_gt hlt) hSl
   fun s' acc' c' ss kp g1 g2 e1 e2 e3=>hR s' acc' c' ss (fun b o e=>kp b o (Nat.ne_of_lt (Heap.lt_size e)) (Heap.get?_push_of_some _ e)) g1 g2 e1 e2 e3
 refine go (fun r s'=>match r with
  | .ok (.ret v)=>wpAny (model prog w) A (match v with
   | .ref a=>do
    match (<- load a).data with
    | .seq xs _=>pure xs.toList
    | _=>unsupported "internal:collect"
   | _=>unsupported "internal:collect") Q E s'
  | .ok _=>False
  | .error e=>E e s') fun s' acc' c' ss kp g1 g2 hS' e2 e3=>?_
 refine wpAny_bind (m:=load s.heap.objs.size) (wpAny_load hS' (wpAny_pure ?_));exact hQ s' acc'.toList ss kp g1 g2 e2 e3
theorem sY (a:Value){Q₁:Value->Shared->Prop}(h:Q₁ (.ref s.heap.objs.size) { s with heap:=s.heap.push (bZ w) }):codeAny (model prog w) A (.call (.builtin "set.__new__") ⟨[.type "set",a],[]⟩) (wants Q₁ E) s:=by
 refine codeAny_of_tree (show wpAny _ A.in1 (do checkBuiltinCall "set.__new__" ⟨[.type "set",a],[]⟩;again (.builtin "set.__new__" ⟨[.type "set",a],[]⟩)) _ _ s from ?_)
 refine wpAny_bind (wpAny_of_eq (F.newCall_set_1 a) (wpAny_pure ⟨plainId_quiet F.plain_set_new _,codeAny_builtin F.entry_set_new ?_⟩));rw [Around.under_plainId F.plain_set_new _];unfold Builtin.«set.__new__» Builtin.Frozenset.newClass;have hsub:=sub_set_self;obtain ⟨hp,g,d,tk,os⟩:=s
 dsimp only
 wp_walk
 refine wpAny_askSetting (wpAny_pure ?_)
 dsimp only
 simp only [newObj];refine wpAny_bind (wpAny_alloc (wpAny_pure (wpAny_pure h)))
end
end SS
namespace L2
open PySem PySem.Spec PyProof.Rows
namespace SE
def Of (w:World)(h:Heap)(D:Addr)(ls:List (List Nat))(i:Nat):Prop:=∃ ms,SS.Is w h D ms∧(∀ x,x∈ms↔x∈(ls.take i).map tx)∧ms.length<=i
theorem Of.at {w:World}{h h':Heap}{D:Addr}{ls:List (List Nat)}{i:Nat}(x:Of w h D ls i)(k:∀ o,h.get? D=some o->h'.get? D=some o):Of w h' D ls i:=let ⟨ms,a,b⟩:=x;⟨ms,a.at k,b⟩
section
variable {prog:Program}{w:World}{A:Around}{R:Result->Shared->Prop}{J:Addr}{fp wr:List Addr}{G:Array GenState->Array GenState->Prop}{n:Nat}{P:Nat->Value->Prop}{St:Nat->Shared->Prop}
theorem Hd (W:WalksS prog w A.in1 J fp wr G n P St){D:Addr}(hD:D∉fp)(ls:List (List Nat))(hv:∀ i v,P i v->∃ t,v=Value.str (tx (ls.getD i [])) t)(hn:n+1<scanBound)(hnl:n<=ls.length) :
  ∀ (k i:Nat) (s:Shared),n-i=k->i<=n->St i s->Of w s.heap D ls i ->
   (∀ s',Moved (D::wr) G s s'->Of w s'.heap D ls n->R (.ok (.ret .none)) s')->codeAny (model prog w) A (.builtin "set.update.loop" ⟨[.ref D,.ref J],[]⟩) R s:=by
 have hDw:D∉wr:=fun z=>hD (W.sub _ z)
 have up:∀ b∈wr,b∈D::wr:=fun b hb=>.tail _ hb
 intro k
 induction k with
 | zero =>
  intro i s hk hi st hs hR;obtain rfl:i=n:=by omega
  refine codeAny_builtin PyProof.Rows.F.entry_set_update_loop ?_;rw [Around.under_plainId PyProof.Rows.F.plain_set_update_loop];refine wpAny_bind (m:=pyNext (.ref J)) (W.done s _ _ st fun s2 mv=>?_);exact (show wpAny _ A.in1 (ret Value.none) _ _ s2 from wpAny_pure (hR s2 (mv.mono up) (hs.at fun o e=>mv.heap D o hDw e)))
 | succ k ih =>
  intro i s hk hi st hs hR;have hlt:i<n:=by omega
  refine codeAny_builtin PyProof.Rows.F.entry_set_update_loop ?_;rw [Around.under_plainId PyProof.Rows.F.plain_set_update_loop];refine wpAny_bind (m:=pyNext (.ref J)) (W.item i s _ _ hlt st fun v s2 pv st2 mv=>?_);obtain ⟨t,rfl⟩:=hv i v pv;have hs2:=hs.at fun o e=>mv.heap D o hDw e
  refine wpAny_bind (m:=holding [Value.str (tx (ls.getD i [])) t] (setAdd D (.str (tx (ls.getD i [])) t))) (wpAny_holding ?_);unfold setAdd;refine wpAny_holding (wpAny_bind ((PySem.strKind prog w).pyHash (k:=tx (ls.getD i [])) (strKind_is _ _ _ _) ?_));obtain ⟨ms,hi1,hi2,hi3⟩:=hs2;refine SS.uA (s:={ s2 with toks:=s2.toks+1 }) hi1 (by omega) fun h3 ms3 sb i3 m3 l3=>?_
  have x4:Of w h3 D ls (i+1):=by
   refine ⟨ms3,i3,fun x=>?_,by omega⟩;have e:ls.take (i+1)=ls.take i++[ls.getD i []]:=by
    rw [List.take_add_one,List.getD_eq_getElem?_getD,List.getElem?_eq_getElem (by omega)];rfl
   rw [m3,hi2,e,List.map_append,List.mem_append,List.map_cons,List.map_nil,List.mem_singleton]
  refine wpAny_pure ⟨plainId_quiet PyProof.Rows.F.plain_set_update_loop _,ih (i+1) _ (by omega) hlt (W.frame _ s2 _ _ st2 (Nat.le_succ _) fun b hb o e=>(sb.2 b fun z=>hD (z▸hb)).trans e) x4 fun s5 m5 x5=>?_⟩;refine hR s5 (Moved.trans W.gtrans ((mv.mono up).then_heap (Nat.le_succ _) fun b o hb e=>(sb.2 b fun z=>hb (z▸.head _)).trans e) m5) x5
variable {E:Value->Shared->Prop}{s:Shared}
theorem pZ {l:Addr}{its:Array Value}{ls:List (List Nat)}{Q:Value->Shared->Prop}(hh:A.handled=none)(hl:s.heap.IsList l its)(hv:∀ i v,its[i]?=some v->∃ t,v=Value.str (tx (ls.getD i [])) t)(hn:its.size+1<scanBound)(hnl:its.size<=ls.length)
  (h:∀ (h':Heap) (tk:Nat),Of w h' s.heap.objs.size ls its.size->(∀ b o,s.heap.get? b=some o->h'.get? b=some o)->Q (.ref s.heap.objs.size) { s with heap:=h',toks:=tk }) :
  wpAny (model prog w) A (call (.type "set") [.ref l]) Q E s:=by
 obtain ⟨mc,mt,f0⟩:=F.called_set.mro;have f1:=F.called_set.made;have f2:=F.called_set.sub;have f3:=F.called_set.notType;have f4:=F.called_set.canCreate;have f5:=F.typeCall_set_1 (.ref l);refine wpAny_call (codeAny_of_tree (show wpAny _ _ (callAny (.type "set") _) _ _ _ from wpAny_pure ⟨Code.quiet_builtin _ (by decide +kernel),codeAny_builtin F.entry_type_call ?_⟩))
 rw [Around.under_plain (weight_type_call_type "set" [.ref l] []) rfl]
 repeat (any_goals (first | wp_step | assumption))
 refine codeAny_mono (SS.sY (.ref l) (E:=E) (Q₁:=fun ob s1=>ob = .ref s.heap.objs.size∧s1 = { s with heap:=s.heap.push (SS.bZ w) }) ⟨rfl,rfl⟩) fun r s1 hr=>?_
 cases r with
 | error e=>exact hr
 | ok fl =>
  cases fl with
  | ret ob =>
   obtain ⟨rfl,rfl⟩:=hr;generalize hob:SS.bZ w=ob;have hD:(s.heap.push ob).get? s.heap.objs.size=some ob:=Heap.get?_push_size _ (by rw [<- hob];rfl);have hT:Shared.TypeIs { s with heap:=s.heap.push ob } (.ref s.heap.objs.size) "set" := ⟨_,hD,by rw [<- hob];rfl⟩
   have f6:=F.called_set.init.lookup;have f7:=F.called_set.init.bind (.ref s.heap.objs.size)
   repeat (any_goals (first | wp_step | assumption))
   refine codeAny_mono (codeAny_call_builtin (R:=wants (fun r s2=>r = .none∧∃ h' tk,s2 = { s with heap:=h',toks:=tk }∧Of w h' s.heap.objs.size ls its.size∧∀ b o,s.heap.get? b=some o->h'.get? b=some o) E)
    F.called_set.init.plain F.entry_set_init (check_set_init_1 hT ?_)) fun r2 s2 hr2=>?_
   ·obtain ⟨⟨oc,od,odt,osl⟩,hol,hcl,nl,hdl⟩:=id hl
    simp only at hcl hdl;subst hcl hdl;have hol':(s.heap.push ob).get? l=some { cls:=.type "list",dict:=od,data:=.seq its nl,slots:=osl }:=Heap.get?_push_of_some _ hol
    have f8:=F.sub_list_set;have f9:=F.sub_list_frozenset;have f10:(Value.type "list" == Value.type "dict")=false:=by decide
    have hl1:(s.heap.push ob).IsList l its:=⟨_,hol',rfl,nl,rfl⟩;subst hob;unfold Builtin.«set.__init__» noKeywords Builtin.Frozenset.updateFrom;generalize hPI:pyIter=PI
    wp_walk
    subst hPI;refine wpAny_pyIter_list hl1 ?_;refine wpAny_bind (wpAny_runValue ?_);have hlt:l<s.heap.objs.size:=Heap.lt_size hol;have hh3:A.in1.in1.in1.handled=none:=by simp [hh]
    have hsz:(s.heap.push (SS.bZ w)).objs.size=s.heap.objs.size+1:=Heap.size_push _ _;have hne:l≠(s.heap.push (SS.bZ w)).objs.size:=by rw [hsz];exact Nat.ne_of_lt (Nat.lt_succ_of_lt hlt)
    have hfp:s.heap.objs.size∉[(s.heap.push (SS.bZ w)).objs.size,l]:=by
     rw [hsz];intro z;rcases List.mem_cons.mp z with e | e
     ·exact Nat.ne_of_lt (Nat.lt_succ_self _) e
     ·exact Nat.ne_of_gt hlt (List.mem_singleton.mp e)
    refine Hd ((Walks.list hh3 _ l hne its).toS) (D:=s.heap.objs.size) hfp ls hv hn hnl (its.size-0) 0 _ (by omega) (Nat.zero_le _) ⟨⟨_,Heap.get?_push_size _ rfl,rfl,rfl⟩,hl1.push _⟩ ?_ fun s3 mv x3=>?_
    ·have hg:((s.heap.push (SS.bZ w)).push { cls:=.type "list_iterator",data:=.fields #[.ref l,.int 0 0] }).get? s.heap.objs.size=some (SS.bZ w):=Heap.get?_push_of_some _ hD
     exact ⟨[],(SS.Is.fresh s.heap).at fun o e=>Heap.get?_push_of_some _ e,fun x=>by simp,Nat.zero_le _⟩
    ·obtain ⟨h3,g3,d3,tk3,os3⟩:=s3
     obtain rfl:g3=s.gens:=mv.gens;obtain rfl:d3=s.drawn:=mv.drawn;obtain rfl:os3=s.os:=mv.os;refine wpAny_pure (show wpAny _ _ (ret Value.none) _ _ _ from wpAny_pure ⟨rfl,h3,tk3,rfl,x3,fun c o e=>?_⟩);have hc:=Heap.lt_size e;exact mv.heap c o (show c∉[s.heap.objs.size,(s.heap.push (SS.bZ w)).objs.size] by
      rw [hsz];intro z;rcases List.mem_cons.mp z with e | e
      ·exact Nat.ne_of_lt hc e
      ·exact Nat.ne_of_lt (Nat.lt_succ_of_lt hc) (List.mem_singleton.mp e)) (Heap.get?_push_of_some _ (Heap.get?_push_of_some _ e))
   ·cases r2 with
    | error e=>exact hr2
    | ok fl2 =>
     cases fl2 with
     | ret r =>
      obtain ⟨rfl,h3,tk,rfl,x3,k3⟩:=hr2
      repeat (any_goals (first | wp_step | assumption))
      exact h _ _ x3 k3
     | _=>exact hr2.elim
  | _=>exact hr.elim
end
end SE
def kG (w:World)(D:Addr)(ms:List (List Nat)):HO:=.ext fun h=>SS.Is w h D (ms.map tx)
theorem qP {ls:List (List Nat)}{x:Str}:x∈ls.map tx↔x.cps.toList∈ls:=by
 rw [List.mem_map];constructor
 ·rintro ⟨l,h,rfl⟩
  rw [dH];exact h
 ·intro h
  exact ⟨_,h,iN x⟩
theorem Ix {w:World}{h:Heap}{D:Addr}{ms ms':List Str}(x:SS.Is w h D ms)(p:ms.Perm ms'):SS.Is w h D ms':=by
 obtain ⟨o,es,ep,t,ho,hex,hd,hel,hnd,r⟩:=x;exact ⟨o,es,ep,t,ho,hex,hd,⟨hel.1,hel.2.trans p⟩,p.nodup_iff.mp hnd,r⟩
theorem wQ {w:World}{h:Heap}{D:Addr}{ms:List Str}(x:SS.Is w h D ms):ms.Nodup:=let ⟨_,_,_,_,_,_,_,_,n,_⟩:=x;n
theorem Eg {ls:List (List Nat)}(h:ls.Nodup):(ls.map tx).Nodup:=by
 refine List.pairwise_map.mpr (h.imp fun hne e=>hne (fG e))
section
variable {X:Cx}
theorem vV {pins:List (Addr×Obj)}{σ:St}{H:Hp}{s:Shared}{D:Addr}{ms:List (List Nat)}(I:Inv X pins σ H s)(h:H D=some (kG X.w D ms)):SS.Is X.w s.heap D (ms.map tx):=by
 obtain ⟨x,_⟩:=(show cG X.prog X.w H s.heap D (kG X.w D ms) from I.hok D _ h);exact x
theorem nB (hc:X.calm=true):eI X (.type "set") (fun xs H Q=>∃ (p:Addr) (ls:List (List Nat)),xs=[.ref p]∧SqL X.K H p (ls.map T)∧ls.length+1<4096∧∀ D,H D=none->Q (.ref D) (upd H D (kG X.w D (uniq ls)))):=by
 intro pins s σ H xs us Q I r h;obtain ⟨p,ls,rfl,hq,hz,q⟩:=h;obtain ⟨u,rfl,ru⟩:=fU r;cases ru;obtain ⟨its,rv,pl,_⟩:=I.list hq;have hlen:=rv.length;rw [List.length_map] at hlen;refine SE.pZ (I.ok.hd hc) pl.isList (ls:=ls) (fun i v e=>Fb rv (by simpa using e)) (by rw [List.size_toArray];unfold scanBound;omega) (by rw [List.size_toArray];omega) fun h' tk x k=>?_
 obtain ⟨ms,i1,i2,_⟩:=x;have x:SS.Is X.w h' s.heap.objs.size ((uniq ls).map tx):=by
  refine Ix i1 ((List.perm_ext_iff_of_nodup (wQ i1) (Eg (kQ ls))).mpr fun y=>?_);rw [i2,qP,qP,gE,List.size_toArray,<- hlen,List.take_length]
 have hf:H s.heap.objs.size=none:=I.hok.fresh (Nat.le_refl _);refine ⟨.ref s.heap.objs.size,_,I.laid (t':=tk) k (Nat.le_refl _) (o:=kG X.w s.heap.objs.size (uniq ls)) ⟨x,x.there,fun h1 h2 x1 kk=>x1.at kk⟩,rfl,q _ hf⟩
theorem My:OpR X (binaryOp .BitOr) (fun x y H Q=>∃ (a b:Addr) (ls ms:List (List Nat)),x = .ref a∧y = .ref b∧a≠b∧H a=some (kG X.w a ls)∧H b=some (kG X.w b ms)∧ls≠[]∧ls.length+ms.length<=128 ∧
  ∀ (D:Addr) (qs:List (List Nat)),H D=none->qs.Nodup->qs.length<=ls.length+ms.length->(∀ z,z∈qs↔z∈ls∨z∈ms)->Q (.ref D) (upd H D (kG X.w D qs))):=by
 intro pins s σ H x y v u Q I rx ry h;obtain ⟨a,b,ls,ms,rfl,rfl,hab,h1,h2,hne,hsz,q⟩:=h;cases rx;cases ry;refine SS.Og hab (vV I h1) (vV I h2) (fun z=>hne (List.map_eq_nil_iff.mp z)) (by rw [List.length_map,List.length_map];exact hsz) fun h' ms' kp i hm hl=>?_
 have em:(ms'.map fun x=>x.cps.toList).map tx=ms':=by
  rw [List.map_map]
  conv=>rhs;rw [<- List.map_id ms']
  exact List.map_congr_left fun x _=>iN x
 have hnd:(ms'.map fun x=>x.cps.toList).Nodup:=List.pairwise_map.mpr ((wQ i).imp fun {a b} hne e=>hne ((iN a).symm.trans ((congrArg tx e).trans (iN b))));have x:SS.Is X.w h' s.heap.objs.size ((ms'.map fun x=>x.cps.toList).map tx):=by rw [em];exact i
 refine ⟨.ref s.heap.objs.size,_,I.laid (t':=s.toks) kp (Nat.le_refl _) (o:=kG X.w s.heap.objs.size (ms'.map fun x=>x.cps.toList)) ⟨x,x.there,fun h1 h2 x1 kk=>x1.at kk⟩,rfl,q _ _ (I.hok.fresh (Nat.le_refl _)) hnd (by rw [List.length_map];rw [List.length_map,List.length_map] at hl;exact hl) fun z=>?_⟩;have e:=hm (tx z);rw [qP,qP,dH] at e;rw [<- e,<- em,qP,dH,em]
end
set_option genInjectivity false in
structure kP (J:It)(H:Hp)(vs:List V):Prop where
 go:∀ i H',aM H H'->i<vs.length->J.go i H'
 yl:∀ i H' y H2,aM H H'->J.yld i H' y H2->H2=H'∧vs[i]?=some y
 st:∀ H',aM H H'->J.stop vs.length H'
theorem cW {K:PySem.W.Frag}{a:Addr}{H:Hp}{vs:List V}(h:SqL K H a vs):kP (Itl K a) H vs :=
 ⟨fun i H' s hi=>⟨vs,vs[i],s.seq h,List.getElem?_eq_getElem hi⟩,fun i H' y H2 s ⟨e1,e2⟩=>⟨e1,e2 vs (s.seq h)⟩,fun H' s=>⟨vs,s.seq h,Nat.le_refl _⟩⟩
theorem wT {K:PySem.W.Frag}{H H':Hp}{p:Addr}{xs:List V}(s:aM H H')(h:SqT K H p xs):SqT K H' p xs:=by
 rcases h with (h | ⟨q,h⟩) | h
 ·exact .inl (.inl (s _ _ h))
 ·exact .inl (.inr ⟨q,s _ _ h⟩)
 ·exact .inr h
theorem jX {K:PySem.W.Frag}{a:Addr}{H:Hp}{vs:List V}(h:SqT K H a vs):kP (Itt K a) H vs :=
 ⟨fun i H' s hi=>⟨vs,vs[i],wT s h,List.getElem?_eq_getElem hi⟩,fun i H' y H2 s ⟨e1,e2⟩=>⟨e1,e2 vs (wT s h)⟩,fun H' s=>⟨vs,wT s h,Nat.le_refl _⟩⟩
theorem pX {l:List Nat}{H:Hp}:kP (Itx l) H ((l.map fun c=>[c]).map T) :=
 ⟨fun i H' _ hi=>by (show i<l.length;simpa using hi),fun i H' y H2 _ ⟨e1,c,hc,e2⟩=>⟨e1,by rw [List.getElem?_map,List.getElem?_map,hc,e2];rfl⟩,fun H' _=>by show l.length<=_;simp⟩
theorem jA {J:It}{vs:List V}{te:TE}{σ:St}{H:Hp}{Q:VK}(f:V->V)(rd:kP J H vs)(hn:vs.length<=sizeLine)
  (he:∀ x H',x∈vs->aM H H'->∀ N:V->Hp->Prop,(∀ H'',aM H' H''->N (f x) H'')->te (some x::σ) H' N)
  (hq:∀ D H',H D=none->aM H H'->H' D=some (.lst (vs.map f))->Q (.ref D) H'):iM te σ Q J H:=by
 intro D hD;refine ⟨fun i m ys H2=>m=vs.length-i∧i<=vs.length∧ys=(vs.take i).map f∧aM H H2∧H2 D=some (.lst ys),⟨vs.length,rfl,Nat.zero_le _,rfl,fun b o e=>?_,aC⟩,?_⟩
 ·rw [aH (aK e hD)]
  exact e
 ·rintro i m ys H2 ⟨rfl,hi,rfl,hs,hd⟩
  by_cases hlt:i<vs.length
  ·have hx:vs[i]?=some vs[i]:=List.getElem?_eq_getElem hlt
   refine .inr ⟨rd.go i H2 hs hlt,by rw [List.length_map,List.length_take];omega,fun v H'=>v=f vs[i]∧aM H2 H',fun v H' ⟨ev,hs'⟩=>⟨hs' D _ hd,vs.length-(i+1),by omega,rfl,hlt,?app,fun b o e=>?kp,aC⟩,fun y H' hy=>?stp⟩
   case app =>
    rw [ev,List.take_add_one,hx,List.map_append];rfl
   case kp =>
    rw [aH (aK e hD)];exact hs' b o (hs b o e)
   case stp =>
    obtain ⟨rfl,e2⟩:=rd.yl i H2 y H' hs hy;have e4:y=vs[i]:=by rw [hx] at e2;exact (Option.some.inj e2).symm
    subst e4;exact he _ _ (List.getElem_mem hlt) hs _ fun H'' h''=>⟨rfl,h''⟩
  ·have e:i=vs.length:=by omega
   subst e;rw [List.take_length] at hd;exact .inl ⟨rd.st H2 hs,hq D H2 hD hs hd⟩
theorem Ge {J:It}{vs:List V}{tc:TT}{te:TE}{σ:St}{H:Hp}{Q:VK}(p:V->Bool)(f:V->V)(rd:kP J H vs)(hn:vs.length<=sizeLine)
  (ht:∀ x H',x∈vs->aM H H'->∀ N:Bool->Hp->Prop,(∀ H'',aM H' H''->N (p x) H'')->tc (some x::σ) H' N)
  (he:∀ x H',x∈vs->p x=true->aM H H'->∀ N:V->Hp->Prop,(∀ H'',aM H' H''->N (f x) H'')->te (some x::σ) H' N)
  (hq:∀ D H',H D=none->aM H H'->H' D=some (.lst ((vs.filter p).map f))->Q (.ref D) H'):gZ tc te σ Q J H:=by
 intro D hD;refine ⟨fun i m ys H2=>m=vs.length-i∧i<=vs.length∧ys=((vs.take i).filter p).map f∧aM H H2∧H2 D=some (.lst ys),⟨vs.length,rfl,Nat.zero_le _,rfl,fun b o e=>?_,aC⟩,?_⟩
 ·rw [aH (aK e hD)]
  exact e
 ·rintro i m ys H2 ⟨rfl,hi,rfl,hs,hd⟩
  by_cases hlt:i<vs.length
  ·have hx:vs[i]?=some vs[i]:=List.getElem?_eq_getElem hlt
   refine .inr ⟨rd.go i H2 hs hlt,by have:=oI p vs i;rw [List.length_map];omega,fun v H'=>v=f vs[i]∧p vs[i]=true∧aM H2 H',fun v H' ⟨ev,hp,hs'⟩=>⟨hs' D _ hd,vs.length-(i+1),by omega,rfl,hlt,?app,fun b o e=>?kp,aC⟩,
    fun H'=>p vs[i]=false∧aM H2 H',fun H' ⟨hp,hs'⟩=>⟨vs.length-(i+1),by omega,rfl,hlt,?skp,fun b o e=>hs' b o (hs b o e),hs' D _ hd⟩,fun y H' hy=>?stp⟩
   case app =>
    rw [ev,nR p vs i _ hx,hp,List.map_append];rfl
   case kp =>
    rw [aH (aK e hD)];exact hs' b o (hs b o e)
   case skp =>
    rw [nR p vs i _ hx,hp];simp
   case stp =>
    obtain ⟨rfl,e2⟩:=rd.yl i H2 y H' hs hy;have e4:y=vs[i]:=by rw [hx] at e2;exact (Option.some.inj e2).symm
    subst e4;refine ht _ _ (List.getElem_mem hlt) hs _ fun H'' h''=>?_
    by_cases hp:p vs[i]=true
    ·rw [if_pos hp]
     exact he _ _ (List.getElem_mem hlt) hp (hs.trans h'') _ fun H3 h3=>⟨rfl,hp,h''.trans h3⟩
    ·rw [if_neg hp]
     exact ⟨by simpa using hp,h''⟩
  ·have e:i=vs.length:=by omega
   subst e;rw [List.take_length] at hd;exact .inl ⟨rd.st H2 hs,hq D H2 hD hs hd⟩
def unT:V->List Nat
 | .str x=>x.cps.toList
 | _=>[]
theorem fJ (l:List Nat):unT (T l)=l:=dH l
section
variable {X:Cx}
theorem zL (K:PySem.W.Frag)(h:X.K=K):OpR X (compareOp .In) (rIn K false):=by subst h;exact Cf
theorem rY (K:PySem.W.Frag)(h:X.K=K):OpR X (compareOp .NotIn) (rIn K true):=by subst h;exact gH
end
theorem gW {f:List Nat->V}(ls:List (List Nat)):(ls.map T).map (fun x=>f (unT x))=ls.map f:=by
 rw [List.map_map];exact List.map_congr_left fun l _=>by show f (unT (T l))=f l;rw [fJ]
theorem lF {p:List Nat->Bool}:∀ ls:List (List Nat),(ls.map T).filter (fun x=>p (unT x))=(ls.filter p).map T
 | []=>rfl
 | l::ls=>by
  rw [List.map_cons,List.filter_cons,List.filter_cons,fJ,lF ls];split <;> rfl
end L2
namespace SS
open PySem PyProof.Rows L2
section
variable {prog:Program}{w:World}{A:Around}{E:Value->Shared->Prop}{s:Shared}
theorem Hc {a:Addr}{Q:Bool->Shared->Prop}(hS:s.TypeIs (.ref a) "dict")(h:Q false s):wpAny (model prog w) A (Builtin.List.listLengthHint (.ref a)) Q E s:=by
 unfold Builtin.List.listLengthHint;refine wpAny_bind (wpAny_specialOf hS F.slot_dict_len.lookup ?_);generalize hid:("dict.__len__" : String)=id0
 wp_delta
 rw [show splitId id0=some ("dict", "__len__") from by subst hid;decide +kernel]
 subst hid;refine wpAny_bind (wpAny_isInstance (T := "dict") (b:=true) hS F.sub_dict_dict ?_)
 refine wpAny_ite_split (fun hab=>absurd hab (by decide)) (fun _=>?_);refine wpAny_ite_split (fun _=>?_) (fun hab=>absurd (by decide +kernel) hab);refine wpAny_bind (wpAny_typeOf hS ?_);exact wpAny_pure h
def sM (vs:List (Key×Value))(i:Nat)(v:Value):Prop:=∃ k x,vs[i]?=some (k,x)∧pS k v=true
theorem pY {h:Heap}{a:Addr}{vs:List (Key×Value)}{ep:Nat}{ob:Obj}(hD:Heap.DictAt (bH prog w) h a vs ep):Heap.DictAt (bH prog w) (h.push ob) a vs ep:=by
 obtain ⟨o,es,g,r⟩:=hD;exact ⟨o,es,Heap.get?_push_of_some _ g,r⟩
theorem Fm {a:Addr}{vs:List (Key×Value)}{ep:Nat}(hD:Heap.DictAt (bH prog w) s.heap a vs ep):s.TypeIs (.ref a) "dict" := by
 obtain ⟨o,es,g,r⟩:=hD;exact (show Heap.DictOf (bH prog w) s.heap a vs from ⟨o,es,ep,g,r⟩).typeIs
theorem qA {a:Addr}{vs:List (Key×Value)}{ep:Nat}{R:Result->Shared->Prop}(hh:A.handled=none)(hd:(a==sysModules)=false)(hD:Heap.DictAt (bH prog w) s.heap a vs ep)(hz:vs.length<=sizeLine)(S:Addr)(res:Value)(h1:S≠a)(hSl:s.heap.get? S=some { cls:=.type "list",data:=.seq #[] })
  (hR:∀ s' acc' c',(∀ b o,b≠S->s.heap.get? b=some o->s'.heap.get? b=some o)->s'.gens=s.gens->s'.os=s.os->s'.heap.get? S=some { cls:=.type "list",dict:=none,data:=.seq acc' c',slots:=#[] }->ItemsOf (sM vs) acc' vs.length->R (.ok (.ret res)) s') :
  wpAny (model prog w) A.in1 (Builtin.List.listExtendWith (.ref S) (.ref a) res)
   (fun fin s'=>match fin with | .done f=>R (.ok f) s' | .again c'=>c'.quiet=true∧codeAny (model prog w) A c' R s') (fun e s'=>R (.error e) s') s:=by
 unfold Builtin.List.listExtendWith;refine wpAny_bind (wpAny_typeOf (Fm hD) ?_);have g1:Builtin.List.listSameRef (.ref S) (.ref a)=false:=by simp [Builtin.List.listSameRef,h1]
 have g2:(Value.type "dict" == Value.type "list")=false:=by decide
 have g3:(Value.type "dict" == Value.type "tuple")=false:=by decide
 simp only [g1,g2,g3,Bool.or_false,Bool.false_eq_true,if_false];refine wpAny_bind (wpAny_pyIter_dict hd hD ?_);have hlt:=Heap.lt_size hSl;have hal:a<s.heap.objs.size:=by obtain ⟨o,es,g,r⟩:=hD;exact Heap.lt_size g
 generalize hio:({ cls:=Value.type "dict_keyiterator",data:=Data.fields #[Value.ref a,Value.int 0 0,Value.int (↑vs.length) 0,Value.int (↑ep) 0] }:Obj)=io
 have hIs:s.heap.objs.size<=s.heap.objs.size:=Nat.le_refl _;have hSI:S≠s.heap.objs.size:=Nat.ne_of_lt hlt;have haI:a≠s.heap.objs.size:=Nat.ne_of_lt hal;have kp:∀ b o,s.heap.get? b=some o->(s.heap.push io).get? b=some o:=fun b o e=>Heap.get?_push_of_some _ e
 have W:=Walks.dictKeys (prog:=prog) (w:=w) (knd:=bH prog w) (A:=A.in1) hh s.heap.objs.size a haI vs ep;have hD2:Heap.DictAt (bH prog w) (s.heap.push io) a vs ep:=pY hD;have st0:(s.heap.push io).IsKeyIter s.heap.objs.size a 0 vs.length ep∧Heap.DictAt (bH prog w) (s.heap.push io) a vs ep:=by
  refine ⟨⟨io,Heap.get?_push_size _ (by rw [<- hio];rfl),?_,?_⟩,hD2⟩
  ·rw [<- hio]
  ·rw [<- hio];rfl
 have hSf:S∉[s.heap.objs.size,a]:=by simp [hSI,h1]
 refine wpAny_bind (wpAny_holding (Hc (s:={ s with heap:=s.heap.push io }) (Fm (s:={ s with heap:=s.heap.push io }) hD2) ?_));have WS:=W.toS;have last:∀ (h0:Heap) (c0:Nat),(∀ b o,b≠S->(s.heap.push io).get? b=some o->h0.get? b=some o)->h0.get? S=some { cls:=.type "list",data:=.seq #[] c0 } ->
   wpAny (model prog w) A.in1 (again (.builtin "list.extend.loop" ⟨[.ref S,.ref s.heap.objs.size,res],[]⟩))
    (fun fin s'=>match fin with | .done f=>R (.ok f) s' | .again c'=>c'.quiet=true∧codeAny (model prog w) A c' R s') (fun e s'=>R (.error e) s') { s with heap:=h0 }:=fun h0 c0 hk0 hS0=>by
  refine wpAny_pure ⟨plainId_quiet F.plain_extend_loop _,codeAny_extend_loopS WS (by omega) S hSf res vs.length 0 _ #[] c0 rfl (Nat.zero_le _) ?_ hS0 (ItemsOf.nil _) fun s' acc' c' hm hS' hacc=>?_⟩
  ·exact W.frame 0 (s.heap.push io) h0 st0 fun b hb o e=>hk0 b o (fun z=>hSf (z▸hb)) e
  ·refine hR s' acc' c' (fun b o hb e=>?_) hm.gens hm.os hS' hacc
   by_cases hbI:b=s.heap.objs.size
   ·subst hbI
    exact absurd (Heap.lt_size e) (Nat.not_lt.mpr hIs)
   ·exact hm.heap b o (by simp [hb,hbI]) (hk0 b o hb (kp b o e))
 refine wpAny_ite_split (fun _=>?_) (fun hab=>absurd (by decide +kernel) hab);refine wpAny_bind (wpAny_rule ?_);have hSl2:(s.heap.push io).get? S=some { cls:=.type "list",data:=.seq #[] }:=kp S _ hSl
 refine wpAny_bind (m:=((do updateSeq S (fun z=>z.push .none);updateSeq S (fun z=>z.pop)):Sem Unit)) (wpAny_bind (wpAny_updateSeq (s:={ s with heap:=s.heap.push io }) hSl2 rfl ?_));have k1:=Heap.get?_update_self (Obj.mapSeq (fun z=>z.push .none)) hSl2 rfl;refine wpAny_updateSeq k1 rfl ?_;have k2:=Heap.get?_update_self (Obj.mapSeq (fun z=>z.pop)) k1 rfl;exact last _ _ (fun b o hb e=>(Heap.get?_update_other _ _ (Ne.symm hb)).trans ((Heap.get?_update_other _ _ (Ne.symm hb)).trans e)) k2
theorem xB {a:Addr}{vs:List (Key×Value)}{ep:Nat}{Q:List Value->Shared->Prop}(hh:A.handled=none)(hd:(a==sysModules)=false)(hD:Heap.DictAt (bH prog w) s.heap a vs ep)(hz:vs.length<=sizeLine)
  (hQ:∀ (s':Shared) (acc:Array Value),(∀ b o,s.heap.get? b=some o->s'.heap.get? b=some o)->s'.gens=s.gens->s'.os=s.os->ItemsOf (sM vs) acc vs.length->Q acc.toList s'):wpAny (model prog w) A (collect (.ref a)) Q E s:=by
 have hlt:a<s.heap.objs.size:=by obtain ⟨o,es,g,r⟩:=hD;exact Heap.lt_size g
 unfold collect;refine wpAny_bind (wpAny_runValue (codeAny_builtin F.entry_proto_collect ?_));rw [Around.under_plainId F.plain_proto_collect];refine wpAny_bind (m:=newList []) (wpAny_newObj_type (wpAny_pure ⟨plainId_quiet F.plain_list_iadd _,codeAny_builtin F.entry_list_iadd ?_⟩));rw [Around.under_plainId F.plain_list_iadd];have hSl:(s.heap.push { cls:=.type "list",data:=.seq #[] }).get? s.heap.objs.size=some { cls:=.type "list",data:=.seq #[] }:=Heap.get?_push_size _ rfl
 have go:∀ R:Result->Shared->Prop,(∀ s' acc' c',(∀ b o,s.heap.get? b=some o->s'.heap.get? b=some o)->s'.gens=s.gens->s'.os=s.os->s'.heap.get? s.heap.objs.size=some { cls:=.type "list",dict:=none,data:=.seq acc' c',slots:=#[] }->ItemsOf (sM vs) acc' vs.length->R (.ok (.ret (.ref s.heap.objs.size))) s') ->
   wpAny (model prog w) A.in1 (Builtin.List.listExtendWith (.ref s.heap.objs.size) (.ref a) (.ref s.heap.objs.size))
    (fun fin s'=>match fin with | .done f=>R (.ok f) s' | .again c'=>c'.quiet=true∧codeAny (model prog w) A c' R s') (fun e s'=>R (.error e) s') { s with heap:=s.heap.push { cls:=.type "list",data:=.seq #[] } }:=fun R hR =>
  qA (A:=A) (s:={ s with heap:=s.heap.push { cls:=.type "list",data:=.seq #[] } }) hh hd (pY hD) hz s.heap.objs.size (.ref s.heap.objs.size) (Nat.ne_of_gt hlt) hSl
   fun s' acc' c' kp g1 g2 e1 e2=>hR s' acc' c' (fun b o e=>kp b o (Nat.ne_of_lt (Heap.lt_size e)) (Heap.get?_push_of_some _ e)) g1 g2 e1 e2
 refine go (fun r s'=>match r with
  | .ok (.ret v)=>wpAny (model prog w) A (match v with
   | .ref a=>do
    match (<- load a).data with
    | .seq xs _=>pure xs.toList
    | _=>unsupported "internal:collect"
   | _=>unsupported "internal:collect") Q E s'
  | .ok _=>False
  | .error e=>E e s') fun s' acc' c' kp g1 g2 hS' e2=>?_
 refine wpAny_bind (m:=load s.heap.objs.size) (wpAny_load hS' (wpAny_pure ?_));exact hQ s' acc' kp g1 g2 e2
end
end SS
namespace L2
open PySem PyProof.Rows
def tKs (ls:List (List Nat))(v:V):List (Key×V):=ls.map fun t=>(Sum.inr (tx t),v)
section
variable {X:Cx}
theorem Bd:∀ (ls:List Str) (us:List Value),us.length=ls.length->(∀ (i:Nat) (v:Value),us[i]?=some v->∃ x t,ls[i]?=some x∧v=Value.str x t)->StrsAre us ls
 | [],[],_,_=>.nil
 | [],_::_,h,_=>nomatch h
 | _::_,[],h,_=>nomatch h
 | y::ls,u::us,h,hp=>by
  obtain ⟨x,t,e1,e2⟩:=hp 0 u rfl;have e3:y=x:=by simpa using e1
  rw [e2,<- e3];exact .cons _ _ (Bd ls us (by simpa using h) fun i v e=>by simpa using hp (i+1) v (by simpa using e))
theorem Fd:∀ {kvs:List (Key×V)} {vs:List (Key×Value)},KV kvs vs->vs.map (·.1)=kvs.map (·.1)
 | [],[],.nil=>rfl
 | _::_,_::_,.cons h r=>by rw [List.map_cons,List.map_cons,h.1,Fd r]
theorem sP {ls:List (List Nat)}{kvs:List (Key×V)}{vs:List (Key×Value)}{acc:Array Value}(hk:kvs.map (·.1)=ls.map fun t=>Sum.inr (tx t))(r:KV kvs vs)(h:ItemsOf (SS.sM vs) acc vs.length):StrsAre acc.toList (ls.map tx):=by
 have e0:vs.map (·.1)=(ls.map tx).map Sum.inr:=by rw [Fd r,hk,List.map_map];rfl
 have el:vs.length=ls.length:=by have:=congrArg List.length e0;simpa using this
 refine Bd _ _ (by rw [Array.length_toList,h.1,el,List.length_map]) fun i v e=>?_
 obtain ⟨k,x,g1,g2⟩:=h.2 i v (by rw [<- Array.getElem?_toList];exact e);have g3:(vs.map (·.1))[i]?=some k:=by rw [List.getElem?_map,g1];rfl
 rw [e0,List.getElem?_map] at g3
 cases g4:(ls.map tx)[i]? with
 | none=>rw [g4] at g3;cases g3
 | some y =>
  rw [g4] at g3;obtain rfl:Sum.inr y=k:=Option.some.inj g3;rcases cR g2 with ⟨j,t,q1,_⟩ | ⟨z,t,q1,q2⟩
  ·cases q1
  ·cases q1
   exact ⟨y,t,rfl,q2⟩
end
open PySem.Spec
namespace SE
section
variable {prog:Program}{w:World}{A:Around}{E:Value->Shared->Prop}{s:Shared}
end
end SE
section
variable {X:Cx}
end
section
variable {X:Cx}{pins:List (Addr×Obj)}{σ:List (Option V)}{H H':Hp}{s:Shared}{h':Heap}
theorem Inv.turnedL {t':Nat}{ch:List Addr}(I:Inv X pins σ H s)(k:∀ b o,b∉ch->s.heap.get? b=some o->h'.get? b=some o)(hf:∀ b∈ch,kU X pins H b):Inv X pins σ H { s with heap:=h',toks:=t' }:=by
 have nit:∀ b u,H b=some u->b∉ch:=fun b u e z=>by rw [(hf b z).1] at e;cases e
 refine I.step (g':=s.gens) (d':=s.drawn) (ch:=ch) (fun b hb=>?_) (fun b o _ _ hc e _=>k b o hc e) (fun b o _ _ hc e _=>⟨o.slots,k b o hc e⟩) (fun _ _ _ _ n=>n)
  (fun b o hc e=>⟨o,k b o hc e⟩) (fun _ _ e=>e) (fun _ _ _ e=>e) (fun b ps e=>⟨#[],by rw [e];simp⟩) (fun m hm=>?_) (fun b u e=>?_) I.bare
 ·obtain ⟨f0,f1,f2,f3,f4,f5⟩:=hf b hb
  exact ⟨f3,f1,f4,f5⟩
 ·obtain ⟨o,es,ep,ho,r⟩:=hm
  exact ⟨o,es,ep,k _ o (fun z=>(hf _ z).2.1 rfl) ho,r⟩
 ·refine (I.hok b u e).stay (fun c v hc q=>k c v ?_ q) (fun _ q=>q) fun _ _ q=>q
  rcases hc with z | z
  ·rw [z];exact nit b u e
  ·exact nit c _ z
end
def Itz (K:PySem.W.Frag)(a b:Addr):It :=
 ⟨fun i H=>∃ xs ys x y,SqL K H a xs∧SqL K H b ys∧xs[i]?=some x∧ys[i]?=some y,
  fun i H x H'=>∃ (T:Addr) (u v:V),x = .ref T∧H T=none∧H'=upd H T (.tup [u,v])∧(∀ xs,SqL K H a xs->xs[i]?=some u)∧∀ ys,SqL K H b ys->ys[i]?=some v,
  fun i H=>∃ xs ys,SqL K H a xs∧SqL K H b ys∧(xs.length<=i∨ys.length<=i)⟩
theorem Hb {P:Program}{w:World}{K:PySem.W.Frag}{elts:List Expr}{x1}{pos:Pos}{a b z TI TO i1 i2:Addr}(D:ZipApart z TI TO i1 i2 a b) :
  rX P w K (.Tuple elts x1 pos) (Itz K a b) [z,TI,TO,i1,i2] z (fun i h=>IsZip h z TI TO .none∧IsPair h TI (.ref i1) (.ref i2)∧(∃ u v,IsPair h TO u v)∧h.IsListIter i1 a i∧h.IsListIter i2 b i) where
 mem:=by simp
 obj:=fun i h st c hc=>by
  obtain ⟨h1,h2,⟨u,v,h3⟩,⟨o4,e4,c4,d4⟩,⟨o5,e5,c5,d5⟩⟩:=st;simp only [List.mem_cons,List.not_mem_nil,or_false] at hc;rcases hc with rfl | rfl | rfl | rfl | rfl
  ·exact ⟨_,h1,fun v z=>by cases z⟩
  ·exact ⟨_,h2,fun v z=>by cases z⟩
  ·exact ⟨_,h3,fun v z=>by cases z⟩
  ·exact ⟨_,e4,fun v z=>by rw [d4] at z;cases z⟩
  ·exact ⟨_,e5,fun v z=>by rw [d5] at z;cases z⟩
 keep:=fun i h h' st k=>by
  obtain ⟨h1,h2,⟨u,v,h3⟩,h4,h5⟩:=st;exact ⟨k z (by simp) _ h1,k TI (by simp) _ h2,⟨u,v,k TO (by simp) _ h3⟩,h4.at fun o e=>k i1 (by simp) o e,h5.at fun o e=>k i2 (by simp) o e⟩
 item:=by
  intro X hP hw hK hc i pins s σ H E I hf st hg;subst hP hw hK;obtain ⟨xs,ys,x,y,hq1,hq2,hx,hy⟩:=hg;obtain ⟨its,rv,p,hz⟩:=I.list hq1;obtain ⟨its2,rv2,p2,hz2⟩:=I.list hq2;obtain ⟨u,hu,ru⟩:=rv.get hx;obtain ⟨v,hv,rv'⟩:=rv2.get hy;obtain ⟨h1,h2,⟨c1,c2,h3⟩,h4,h5⟩:=st;refine wpAny_pyNext_zip_item D h1 h2 h3 h4 h5 p.isList p2.isList (x:=u) (y:=v) (by simpa using hu) (by simpa using hv) fun h' z1 z2 z3 z4 z5 z6 z7=>?_
  refine ⟨_,rfl,wpAny_letOwnedTupleGo_zip (s:={ s with heap:=h' }) z1 fun h'' y1 y2=>?_⟩;have hT:H s.heap.objs.size=none:=I.hok.fresh (Nat.le_refl _);have I1:Inv X pins σ (upd H s.heap.objs.size (.tup [x,y])) { s with heap:=s.heap.push { cls:=.type "tuple",data:=.seq #[u,v] },toks:=s.toks } :=
   I.laid (t':=s.toks) (fun b u e=>Heap.get?_push_of_some _ e) (Nat.le_refl _) ⟨(by show 2<=sizeLine;rw [sizeLine_eq];decide),[u,v],.cons ru (.cons rv' .nil),⟨_,Heap.get?_push_size _ rfl,rfl,_,rfl⟩⟩
  have nf:∀ c∈[z,TI,TO,i1,i2],c≠s.heap.objs.size:=fun c hc e=>by
   have lt:∃ o,s.heap.get? c=some o:=by
    obtain ⟨o4,e4,_⟩:=id h4;obtain ⟨o5,e5,_⟩:=id h5;simp only [List.mem_cons,List.not_mem_nil,or_false] at hc;rcases hc with rfl | rfl | rfl | rfl | rfl
    ·exact ⟨_,h1⟩
    ·exact ⟨_,h2⟩
    ·exact ⟨_,h3⟩
    ·exact ⟨_,e4⟩
    ·exact ⟨_,e5⟩
   obtain ⟨o,ho⟩:=lt
   have:=Heap.lt_size ho
   rw [e] at this;exact Nat.lt_irrefl _ this
  have hf1:∀ c∈[z,TI,TO,i1,i2],kU X pins (upd H s.heap.objs.size (.tup [x,y])) c:=fun c hc=>by
   obtain ⟨f0,f⟩:=hf c hc;exact ⟨by rw [aH (nf c hc)];exact f0,f⟩
  have I2:Inv X pins σ (upd H s.heap.objs.size (.tup [x,y])) { s with heap:=h'',toks:=s.toks } :=
   Inv.turnedL (s:={ s with heap:=s.heap.push { cls:=.type "tuple",data:=.seq #[u,v] },toks:=s.toks }) (t':=s.toks) (ch:=[z,TI,TO,i1,i2]) I1 (fun b o hb e=>by
    simp only [List.mem_cons,List.not_mem_nil,or_false,not_or] at hb;obtain ⟨b1,b2,b3,b4,b5⟩:=hb;refine (y2.2 b b1).trans ?_;rcases Heap.get?_push_cases e with ⟨rfl,rfl⟩ | e
    ·exact z5
    ·exact z7 b o b1 b3 b4 b5 e) hf1
  refine ⟨.ref s.heap.objs.size,_,I2,rfl,⟨s.heap.objs.size,x,y,rfl,hT,rfl,fun zs hzs=>by rw [I.list_inj hzs hq1];exact hx,fun zs hzs=>by rw [I.list_inj hzs hq2];exact hy⟩,⟨y1,?_,⟨u,v,?_⟩,?_,?_⟩,fun c hc=>(hf1 c hc).1⟩
  ·exact (y2.2 TI D.TIz).trans (z7 TI _ D.TIz D.TITO D.TIi1 D.TIi2 h2)
  ·exact (y2.2 TO D.TOz).trans z2
  ·exact z3.at fun o e=>(y2.2 i1 D.i1z).trans e
  ·exact z4.at fun o e=>(y2.2 i2 D.i2z).trans e
 done:=by
  intro X hP hw hK hc i pins s σ H E I hf st hg;subst hP hw hK;obtain ⟨xs,ys,hq1,hq2,hl⟩:=hg;obtain ⟨its,rv,p,hz⟩:=I.list hq1;obtain ⟨its2,rv2,p2,hz2⟩:=I.list hq2;obtain ⟨h1,h2,⟨c1,c2,h3⟩,h4,h5⟩:=st;have l1:=rv.length;have l2:=rv2.length;refine wpAny_pyNext_zip_end (I.ok.hd hc) D h1 h2 h3 h4 h5 p.isList p2.isList ?_ fun h' kk=>⟨rfl,?_⟩
  ·rcases hl with g | g
   ·exact .inl (by simp;omega)
   ·exact .inr (by simp;omega)
  ·exact I.turnedL (t':=s.toks) (ch:=[z,TI,TO,i1,i2]) (fun b o hb e=>by
    simp only [List.mem_cons,List.not_mem_nil,or_false,not_or] at hb;obtain ⟨b1,b2,b3,b4,b5⟩:=hb;exact kk b o b1 b3 b4 b5 e) hf
 self:=fun _ _ _ _ _ st h=>wpAny_pyIter_zip st.1 h
section
variable {X:Cx}
def Qt (K:PySem.W.Frag)(ta:TA):TI:=fun σ H R=>ta σ H fun xs H1=>∃ a b:Addr,xs=[.ref a,.ref b]∧(∃ us,SqL K H1 a us)∧(∃ vs,SqL K H1 b vs)∧R (Itz K a b) H1
theorem Ls {a b:Expr}{ta:TA}{p pos pos':Pos}{elts:List Expr}{x1}(hg:Gl X "zip")(hm:X.mg "zip" = none)(ha:PA X [a,b] ta)(hs:starEach [a,b] X.env=[(false,eval a X.env),(false,eval b X.env)]:=by rfl)(hs2:starEach [b] X.env=[(false,eval b X.env)]:=by rfl) :
  PI X (.Tuple elts x1 pos') (.Call (.Name "zip" p) [a,b] [] pos) (Qt X.K ta):=by
 intro pins s σ H R I h;refine Call_ (mS I hg hm boot_zip (PyProof.Rows.callWith_type1 (thn (ha pos pins s σ H _ I h) fun us s1 ⟨vs,H1,I1,r1,q1⟩=>?_) (by rw [hs,hs2]) (by rw [hs2];rfl)));obtain ⟨l1,l2,e,⟨us1,hq1⟩,⟨us2,hq2⟩,q⟩:=q1;subst e
 cases r1 with
 | cons r rr =>
  cases rr with
  | cons r' rr =>
   cases rr;cases r;cases r';obtain ⟨its,rv,p,hz⟩:=I1.list hq1;obtain ⟨its2,rv2,p2,hz2⟩:=I1.list hq2;obtain ⟨o1,ho1,_⟩:=id p.isList;obtain ⟨o2,ho2,_⟩:=id p2.isList;refine call_zip_2 p.isList p2.isList fun h' z1 z2 z3 z4 z5 z6 z7=>?_
   refine wpAny_pyIter_zip (s:={ s1 with heap:=h' }) z1 ?_;have fr:∀ c,s1.heap.objs.size<=c->kU X pins H1 c:=fun c hc=>I1.fpOk hc (I1.hok.fresh hc)
   refine ⟨s1.heap.objs.size+4,[s1.heap.objs.size+4,s1.heap.objs.size+2,s1.heap.objs.size+3,s1.heap.objs.size,s1.heap.objs.size+1],_,_,H1,rfl,I1.kept (t':=s1.toks) z7,Hb (zipApart_new (Heap.lt_size ho1) (Heap.lt_size ho2)),⟨z1,z2,⟨_,_,z3⟩,z4,z5⟩,fun c hc=>fr c ?_,q⟩;simp only [List.mem_cons,List.not_mem_nil,or_false] at hc;rcases hc with rfl | rfl | rfl | rfl | rfl
   ·exact Nat.le_add_right _ _
   ·exact Nat.le_add_right _ _
   ·exact Nat.le_add_right _ _
   ·exact Nat.le_refl _
   ·exact Nat.le_add_right _ _
end
namespace ZS
section
variable {prog:Program}{w:World}{A:Around}{E:Value->Shared->Prop}{s:Shared}
end
end ZS
section
variable {X:Cx}
end
theorem on1 {α:Type}{C:List α->Prop}{us:List α}(h:us.length=1)(k:∀ a,C [a]):C us:=match us,h with | [a],_=>k a
theorem on2 {α:Type}{C:List α->Prop}{us:List α}(h:us.length=2)(k:∀ a b,C [a,b]):C us:=match us,h with | [a,b],_=>k a b
theorem on3 {α:Type}{C:List α->Prop}{us:List α}(h:us.length=3)(k:∀ a b c,C [a,b,c]):C us:=match us,h with | [a,b,c],_=>k a b c
theorem on4 {α:Type}{C:List α->Prop}{us:List α}(h:us.length=4)(k:∀ a b c d,C [a,b,c,d]):C us:=match us,h with | [a,b,c,d],_=>k a b c d
section
variable {X:Cx}
theorem Hz {st:List Stmt}:PSs X st (fun _ _ _=>False):=fun _ _ _ _ _ _ h=>h.elim
end
set_option genInjectivity false in
structure tY (N N':List Str)(sc scope:Scope)(x y2:Str):Prop where
 kind:scope.kind = .function
 cell:∀ y∈scope.names,y.2≠.cell
 names:∀ y∈scope.names,y.2 = .local->scope.names.lookup y.1=some .local
 var:scope.names.lookup x=some .local
 var2:scope.names.lookup y2=some .local
 ok:∀ y∈scope.names,y.2 = .free->sc.names.lookup y.1=some .cell∨sc.names.lookup y.1=some .free
 hd:N'[0]?=some x
 hd2:N'[1]?=some y2
 len:N'.length=N.length+2
 sub:∀ i,i<N.length->N'[i+2]?=N[i]?∨N'[i+2]?=some ("" : Str)
 noe:scope.names.lookup ("" : Str)=none
 nol:∀ y∈N'.tail.tail,scope.names.lookup y≠some .local
 nd:N'.Nodup
def uV (K:PySem.W.Frag)(te:TE)(σ:St)(Q:VK)(J:It)(H1:Hp):Prop:=∀ D,H1 D=none->∃ W:Nat->Nat->List V->Hp->Prop,(∃ m,W 0 m [] (upd H1 D (.lst [])))∧∀ i m ys H2,W i m ys H2 ->
 (J.stop i H2∧Q (.ref D) H2)∨(J.go i H2∧ys.length<sizeLine∧∃ N:V->Hp->Prop,(∀ v H',N v H'->H' D=some (.lst ys)∧∃ m',m'<m∧W (i+1) m' (ys++[v]) (upd H' D (.lst (ys++[v])))) ∧
  ∀ y H',J.yld i H2 y H'->∃ (a:Addr) (u v:V),y = .ref a∧SqT K H' a [u,v]∧te (some u::some v::σ) H' N)
def Mn (K:PySem.W.Frag)(wi:TI)(te:TE):TE:=fun σ H Q=>wi σ H (uV K te σ Q)
section
variable {X:Cx}{N':List Str}{scope:Scope}{x y2:Str}{px py py2 pt:Pos}{elt iter:Expr}{pos:Pos}{te:TE}{wi:TI}
theorem yO (S:tY X.N N' X.env.scope scope x y2)(hc:X.calm=true)(he:∀ cl C s H fp,PE (bY X N' scope cl C s H fp) elt te)
  {pins:List (Addr×Obj)} {σ:St} {H:Hp} {s:Shared} {Q:VK} {E:Value->Shared->Prop} {RR:Value->Addr->Result->Shared->Prop} {it:Addr} {fp:List Addr} {tn:Nat->Heap->Prop} {J:It}
  (I:Inv X pins σ H s) (T:rX X.prog X.w X.K (.Tuple [.Name x px,.Name y2 py] 0 pt) J fp it tn) (st:tn 0 s.heap) (f2:∀ b∈fp,kU X pins H b)
  (hw:uV X.K te σ Q J H)
  (hRR:∀ D C s' H',Inv X pins σ H' s'->(∃ m,s'.heap.Ns C m)->C≠X.env.locals->(∀ y c,X.env.cells.lookup y=some c->c≠C)->H' C=none->X.s₀.heap.objs.size<=C->(∀ p∈X.pn++pins,p.1≠C)->Q (.ref D) H'->RR (.ref D) C (.ok .next) s') :
  ∃ cl,closureFor scope X.env=pure cl∧wpAny (model X.prog X.w) X.A (newList []) (fun acc s₃=>wpAny (model X.prog X.w) X.A (newFunctionEnv scope X.env.globals cl [] X.env.qual none .none (some X.env)) (fun cenv s₄ =>
   codeAny (model X.prog X.w) X.A (.compStart (.ListComp elt [⟨.Tuple [.Name x px,.Name y2 py] 0 pt,iter,[],0⟩] scope pos) 0 (.ref it) acc { cenv with scope:=relabel scope X.env }) (RR acc cenv.locals) s₄) E s₃) E s:=by
 have hfree:∀ z∈scope.names,z.2 = .free->∃ c,X.env.cells.lookup z.1=some c:=fun z hz hk=>by
  rcases S.ok z hz hk with q | q
  ·exact I.ok.has z.1 (.inl q)
  ·exact I.ok.has z.1 (.inr q)
 refine ⟨_,gX hfree,?_⟩;have clS:∀ y c,(dG X.env.cells scope.names []).lookup y=some c->X.env.cells.lookup y=some c:=fun y c=>lE scope.names [] hfree fun q=>by cases q
 generalize hcl:dG X.env.cells scope.names []=cl at clS;have clH:∀ y,scope.names.lookup y=some .free->∃ c,cl.lookup y=some c:=fun y hy=>by
  rw [<- hcl];exact pT scope.names [] (eR hy)
 refine wpAny_newObj_type (wpAny_newFunctionEnv S.cell (by intro y hy;simp at hy) (fun h₁ hns₁ hsb₁=>?_) S.kind);have I3:Inv X pins σ (upd H s.heap.objs.size (.lst [])) { s with heap:=s.heap.push { cls:=.type "list",data:=.seq ([]:List Value).toArray } }:=I.lnew (t':=s.toks) .nil (Nat.zero_le _)
 obtain ⟨W,⟨m0,w0⟩,turn⟩:=hw s.heap.objs.size I.fresh
 dsimp only at hns₁ hsb₁ ⊢
 generalize hs3:({ s with heap:=s.heap.push { cls:=.type "list",data:=.seq ([]:List Value).toArray } }:Shared)=s3 at I3
 have hh3:s3.heap=s.heap.push { cls:=.type "list",data:=.seq ([]:List Value).toArray }:=by rw [<- hs3]
 have hsz3:s3.heap.objs.size=s.heap.objs.size+1:=by rw [hh3,Heap.size_push]
 rw [<- hh3] at hns₁ hsb₁ ⊢;have old:∀ b o,s3.heap.get? b=some o->h₁.get? b=some o:=fun b o e=>hsb₁.extBut b o (by have:=Heap.lt_size e;exact Nat.ne_of_lt this) (Heap.get?_push_of_some _ e)
 have old0:∀ b o,s.heap.get? b=some o->h₁.get? b=some o:=fun b o e=>old b o (by rw [hh3];exact Heap.get?_push_of_some _ e)
 have CneL:s3.heap.objs.size≠X.env.locals:=Nat.ne_of_gt I3.lt;have CneC:∀ y c,X.env.cells.lookup y=some c->c≠s3.heap.objs.size:=fun y c e z=>by
  obtain ⟨v,q⟩:=I3.cell y c e
  have:=q.lt
  rw [z] at this;exact absurd this (Nat.lt_irrefl _)
 have CneP:∀ p∈X.pn++pins,p.1≠s3.heap.objs.size:=fun p hp z=>by
  have:=Heap.lt_size (I3.pin p hp).1
  rw [z] at this;exact absurd this (Nat.lt_irrefl _)
 have CfreeH:∀ b o,s3.heap.get? b=some o->b<s3.heap.objs.size:=fun b o e=>by have:=Heap.lt_size e;exact this
 have fpLt:∀ b∈fp,b<s3.heap.objs.size:=fun b hb=>by
  obtain ⟨o,e,_⟩:=T.obj 0 s.heap st b hb;rw [hsz3];exact Nat.lt_succ_of_lt (Heap.lt_size e)
 have fpD:∀ b∈fp,b≠s.heap.objs.size:=fun b hb=>by
  obtain ⟨o,e,_⟩:=T.obj 0 s.heap st b hb;exact Nat.ne_of_lt (Heap.lt_size e)
 have ok':(bY X N' scope cl s3.heap.objs.size s3 (upd H s.heap.objs.size (.lst [])) fp).Ok:=by
  refine ⟨I3.ok.mod,?_,I3.ok.glob,I3.ok.blt,Nat.le_refl _,fun y z c h1 h2=>I3.ok.inj y z c (clS y c h1) (clS z c h2),fun y hy=>?_,fun y c hf=>(by cases hf),I3.ok.hd,I3.ok.frames,.inl rfl,fun b hb=>⟨Nat.ne_of_lt (fpLt b hb),fun y c e=>(f2 b hb).2.2.2.2.1 y c (clS y c e)⟩,
   fun b o e=>I3.bs b o e,Nat.le_trans I3.ok.bsz I3.sz,fun b o e hb=>?_,fun b hb z=>?_,I3.stack,I3.stkFree⟩
  ·show (relabel scope X.env).kind = .function
   exact S.kind
  ·have hy':(relabel scope X.env).names.lookup y=some .cell∨(relabel scope X.env).names.lookup y=some .free:=hy
   rw [cI] at hy'
   cases q:scope.names.lookup y with
   | none=>rw [q] at hy';rcases hy' with z | z <;> cases z
   | some k =>
     have hm:=eR q
     cases k with
     | free=>exact clH y q
     | cell=>exact absurd rfl (S.cell _ hm)
     | «local» => rw [q] at hy';rcases hy' with z | z <;> simp at z
     | globalExplicit=>rw [q] at hy';rcases hy' with z | z <;> simp at z
     | globalImplicit=>rw [q] at hy';rcases hy' with z | z <;> simp at z
  ·rcases (f2 b hb).2.2.2.1 with z | z
   · exact I.ok.noex b o e z
   · exact absurd (Nat.lt_of_lt_of_le (Heap.lt_size e) (Nat.le_trans I.ok.bsz z)) (Nat.lt_irrefl _)
  ·rcases List.mem_cons.mp (I3.stkSub b z) with q | q
   · exact (f2 b hb).2.1 q
   · exact (f2 b hb).2.2.1 q
 have fpOk':∀ {H':Hp},(∀ b∈fp,H' b=none)->∀ b∈fp,kU (bY X N' scope cl s3.heap.objs.size s3 (upd H s.heap.objs.size (.lst [])) fp) pins H' b:=fun hn b hb =>
  ⟨hn b hb,Nat.ne_of_lt (fpLt b hb),fun z=>by
   rcases List.mem_cons.mp (I3.stkSub b z) with q | q
   · exact (f2 b hb).2.1 q
   · exact (f2 b hb).2.2.1 q,.inl hb,fun y c e=>(f2 b hb).2.2.2.2.1 y c (clS y c e),(f2 b hb).2.2.2.2.2⟩
 have I4:Inv (bY X N' scope cl s3.heap.objs.size s3 (upd H s.heap.objs.size (.lst [])) fp) pins (none::none::σ) (upd H s.heap.objs.size (.lst [])) { s3 with heap:=h₁,toks:=s3.toks+([]:List (Str×Value)).length }:=by
  refine ⟨ok',rfl,I3.bare,Un.kept old,⟨_,hns₁,fun i y v e1 e2 vis=>?_⟩,fun y c e=>?_,?_,fun y c e=>I3.freeC y c (clS y c e),fun p hp=>?_,I3.hok.kept old,?_⟩
  ·cases i with
   | zero=>cases e2
   | succ i =>
    cases i with
    | zero=>cases e2
    | succ i =>
     have e2':σ[i]?=some (some v):=by simpa using e2
     have hi:i<X.N.length:=by rw [<- I3.len];exact (List.getElem?_eq_some_iff.mp e2').1
     have vis':(relabel scope X.env).names.lookup y=some .local∨(relabel scope X.env).names.lookup y=some .cell∨(relabel scope X.env).names.lookup y=some .free:=vis;have e1':N'[i+2]?=some y:=e1;rcases S.sub i hi with q | q
     ·rw [e1'] at q
      have hy:X.N[i]?=some y:=q.symm;have hmem:y∈N'.tail.tail:=by
       rw [List.mem_iff_getElem?];exact ⟨i,by rw [List.getElem?_tail,List.getElem?_tail];exact e1'⟩
      have hfr:scope.names.lookup y=some .free:=by
       rw [cI] at vis'
       cases q2:scope.names.lookup y with
       | none=>rw [q2] at vis';rcases vis' with z | z | z <;> cases z
       | some k =>
        cases k with
        | free=>rfl
        | cell=>exact absurd rfl (S.cell _ (eR q2))
        | «local» => exact absurd q2 (S.nol y hmem)
        | globalExplicit=>rw [q2] at vis';rcases vis' with z | z | z <;> simp at z
        | globalImplicit=>rw [q2] at vis';rcases vis' with z | z | z <;> simp at z
      have hok:=S.ok (y,.free) (eR hfr) rfl;obtain ⟨m,hn,hl⟩:=I3.loc;have visX:Vis X.env.scope y:=by
       rcases hok with z | z
       ·exact .inr (.inl z)
       ·exact .inr (.inr z)
      obtain ⟨u,r,l⟩:=hl i y v hy e2' visX;refine ⟨u,r,.inr ⟨?_,?_⟩⟩
      ·show (relabel scope X.env).names.lookup y=some .cell∨(relabel scope X.env).names.lookup y=some .free
       rw [cI,hfr,Option.map_some];by_cases hcnd:(NameKind.free==NameKind.free&&X.env.scope.kind == .function&&X.env.kindOf y==some .cell)=true
       ·left
        rw [if_pos hcnd]
       ·right
        rw [if_neg hcnd]
      ·rcases l with ⟨k,_⟩ | ⟨k,c,e,z⟩
       ·have k':X.env.scope.names.lookup y=some .local:=k
        have hok':X.env.scope.names.lookup y=some .cell∨X.env.scope.names.lookup y=some .free:=hok;rw [k'] at hok';rcases hok' with z | z <;> cases z
       ·obtain ⟨c',e'⟩:=clH y hfr
        have e3:=clS y c' e';rw [e] at e3;cases e3;obtain ⟨o,ho,hd⟩:=z;exact ⟨c,e',o,old c o ho,hd⟩
     ·rw [e1'] at q
      cases q;rw [cI,S.noe] at vis';rcases vis' with z | z | z <;> cases z
  ·obtain ⟨v,o,ho,hd⟩:=I3.cell y c (clS y c e)
   exact ⟨v,o,old c o ho,hd⟩
  ·show upd H s.heap.objs.size (.lst []) s3.heap.objs.size=none
   exact I3.hok.fresh (Nat.le_refl _)
  ·obtain ⟨e,n,ne,nf,d⟩:=I3.pin p hp
   refine ⟨old _ _ e,n,CneP p hp,fun z=>?_,d⟩;rcases List.mem_cons.mp (I3.stkSub p.1 z) with q | q
   · exact ne q
   · exact nf q
  ·show (none::none::σ).length=N'.length
   rw [S.len,List.length_cons,List.length_cons,I3.len]
 have st4:tn 0 h₁:=T.keep 0 s.heap h₁ st fun b _ o e=>old0 b o e
 have loop:∀ s₄:Shared,s₄ = { s3 with heap:=h₁,toks:=s3.toks+([]:List (Str×Value)).length } ->
   codeAny (model X.prog X.w) X.A (.compLoop (.ListComp elt [⟨.Tuple [.Name x px,.Name y2 py] 0 pt,iter,[],0⟩] scope pos) 0 (.ref it) (.ref s.heap.objs.size) (compEnvC scope cl s3.heap.objs.size X.env)) (RR (.ref s.heap.objs.size) s3.heap.objs.size) s₄:=by
  rintro s₄ rfl;refine jG (fun n s'=>∃ i v0 v1 ys H',Inv (bY X N' scope cl s3.heap.objs.size s3 (upd H s.heap.objs.size (.lst [])) fp) pins (v0::v1::σ) H' s'∧tn i s'.heap∧(∀ b∈fp,H' b=none)∧W i n ys H') ?_ m0
   ⟨0,none,none,[],_,I4,st4,fun b hb=>by rw [aH (fpD b hb)];exact (f2 b hb).1,w0⟩
  rintro n s5 ⟨i,v0,v1,ys,H5,I5,st5,fr5,w5⟩;rcases turn i n ys H5 w5 with ⟨stop,qn⟩ | ⟨go,hz,N,hN,step⟩
  ·refine thn (T.done (bY X N' scope cl s3.heap.objs.size s3 (upd H s.heap.objs.size (.lst [])) fp) rfl rfl rfl hc i pins s5 (v0::v1::σ) H5 (fun _ _=>False) I5 (fpOk' fr5) st5 stop) fun r s6 ⟨hr,I6⟩=>?_
   subst hr;have hch:∀ b∈fp,(b∈X.ex∨X.s₀.heap.objs.size<=b)∧b≠X.env.locals∧(∀ x c,X.env.cells.lookup x=some c->c≠b)∧∀ p∈X.pn++pins,p.1≠b:=fun b hb =>
     ⟨(f2 b hb).2.2.2.1,(f2 b hb).2.1,(f2 b hb).2.2.2.2.1,(f2 b hb).2.2.2.2.2⟩
   have I7:Inv X pins σ H5 s6:=I3.call' (ch:=fp) I6.os I6.base I6.hok I6.bare hch;obtain ⟨m,hm,_⟩:=I6.loc;exact hRR s.heap.objs.size s3.heap.objs.size s6 H5 I7 ⟨m,hm⟩ CneL CneC I6.free (Nat.le_trans I3.sz (Nat.le_refl _)) CneP qn
  ·refine thn (T.item (bY X N' scope cl s3.heap.objs.size s3 (upd H s.heap.objs.size (.lst [])) fp) rfl rfl rfl hc i pins s5 (v0::v1::σ) H5 (fun _ _=>False) I5 (fpOk' fr5) st5 go) fun r s6 ⟨u,hr,h6⟩=>?_
   subst hr;refine thn h6 fun _ s7 ⟨y,H7,I7,r7,y7,st7,fr7⟩=>?_
   have I7':=I7.pinned (fpOk' fr7) (T.obj _ _ st7);obtain ⟨aT,u0,u1,e7,hT7,step7⟩:=step y H7 y7;have I7c:Inv (bY X N' scope cl s3.heap.objs.size s3 (upd H s.heap.objs.size (.lst [])) fp) (pins++kZ fp s7.heap) (v0::v1::σ) H7 s7:=I7';refine thn ((show PG _ _ _ from zG (X:=bY X N' scope cl s3.heap.objs.size s3 (upd H s.heap.objs.size (.lst [])) fp) (es:=[.Name x px,.Name y2 py]) (n:=2) hc
     (iC (bO (i:=0) S.nd S.hd (.inl (lookup_relabel_local S.var)) (.inr (lookup_relabel_local S.var))) (iC (bO (i:=1) S.nd S.hd2 (.inl (lookup_relabel_local S.var2)) (.inr (lookup_relabel_local S.var2))) vK)))
     _ s7 (v0::v1::σ) H7 y u (fun σ2 H2=>σ2=some u0::some u1::σ∧H2=H7) I7c r7 ⟨aT,[u0,u1],e7,hT7,rfl,u0,[u1],rfl,u1,[],rfl,rfl,rfl,rfl⟩) fun _ s8 ⟨σ8,H8,I8,e8,e8'⟩=>?_
   subst e8 e8';have I8':Inv (bY X N' scope cl s3.heap.objs.size s3 (upd H s.heap.objs.size (.lst [])) fp) (pins++kZ fp s7.heap) (some u0::some u1::σ) H8 s8:=I8;refine thn (he cl s3.heap.objs.size s3 (upd H s.heap.objs.size (.lst [])) fp _ s8 (some u0::some u1::σ) _ N I8' step7) fun w s9 ⟨v,H9,I9,r9,q9⟩=>?_
   obtain ⟨hD9,m',hm,w9⟩:=hN v H9 q9;refine thn (eU _ s9 (some u0::some u1::σ) H9 (.ref s.heap.objs.size) [v] (.ref s.heap.objs.size) [w] (fun z H10=>z = .non∧H10=upd H9 s.heap.objs.size (.lst (ys++[v]))) I9 rfl (.cons r9 .nil) ⟨s.heap.objs.size,ys,v,rfl,rfl,hD9,hz,rfl,rfl⟩) fun _ s10 ⟨z,H10,I10,_,ez,e10⟩=>?_
   subst e10;refine ⟨m',hm,i+1,some u0,some u1,ys++[v],_,I10.unpinned,T.keep _ _ _ st7 fun b hb o e=>(I10.pin (b,o) (List.mem_append_right _ (List.mem_append_right _ (eQ hb e)))).1,fun b hb=>?_,w9⟩;obtain ⟨o,e,d⟩:=T.obj _ _ st7 b hb;exact (I10.pin (b,o) (List.mem_append_right _ (List.mem_append_right _ (eQ hb e)))).2.1
 exact codeAny_compStart_list (loop _ (by rw [<- hs3])) (T.self X.A 0 _ _ _ st4 (loop _ (by rw [<- hs3])))
end
theorem Hx {K:PySem.W.Frag}{a b:Addr}{xs ys:List V}{te:TE}{σ:St}{H:Hp}{Q:VK}(f:V->V->V)(hx:SqL K H a xs)(hy:SqL K H b ys)(he:xs.length=ys.length)(hn:xs.length<=sizeLine)
  (hs:∀ (i:Nat) (x y:V) (H':Hp),xs[i]?=some x->ys[i]?=some y->aM H H'->∀ N:V->Hp->Prop,(∀ H'',aM H' H''->N (f x y) H'')->te (some x::some y::σ) H' N)
  (hq:∀ D H',H D=none->aM H H'->H' D=some (.lst (List.zipWith f xs ys))->Q (.ref D) H'):uV K te σ Q (Itz K a b) H:=by
 have hzl:(List.zipWith f xs ys).length=xs.length:=by rw [List.length_zipWith,<- he,Nat.min_self]
 intro D hD;refine ⟨fun i m zs H2=>m=xs.length-i∧i<=xs.length∧zs=(List.zipWith f xs ys).take i∧aM H H2∧H2 D=some (.lst zs),⟨xs.length,rfl,Nat.zero_le _,rfl,fun b o e=>?_,aC⟩,?_⟩
 ·rw [aH (aK e hD)]
  exact e
 ·rintro i m zs H2 ⟨rfl,hi,rfl,s2,hd⟩
  by_cases hlt:i<xs.length
  ·have h1:xs[i]?=some xs[i]:=List.getElem?_eq_getElem hlt
   have h2:ys[i]?=some (ys[i]'(by omega)):=List.getElem?_eq_getElem (by omega);refine .inr ⟨⟨xs,ys,_,_,s2.seq hx,s2.seq hy,h1,h2⟩,by rw [List.length_take];omega,fun v H'=>v=f xs[i] (ys[i]'(by omega))∧aM H2 H',fun v H' ⟨ev,hs'⟩=>⟨hs' D _ hd,xs.length-(i+1),by omega,rfl,hlt,?app,fun b o e=>?kp,aC⟩,fun y H' hy'=>?stp⟩
   case app=>rw [ev,List.take_add_one,List.getElem?_zipWith,h1,h2];rfl
   case kp =>
    rw [aH (aK e hD)];exact hs' b o (s2 b o e)
   case stp =>
    obtain ⟨T,u,v,rfl,hT,rfl,y1,y3⟩:=hy';have t2:aM H2 (upd H2 T (.tup [u,v])):=fun b o e=>by rw [aH (aK e hT)];exact e
    obtain rfl:=Option.some.inj ((y1 xs (s2.seq hx)).symm.trans h1);obtain rfl:=Option.some.inj ((y3 ys (s2.seq hy)).symm.trans h2);exact ⟨T,_,_,rfl,SqT.of aC,hs i _ _ _ h1 h2 (s2.trans t2) _ fun H'' h''=>⟨rfl,t2.trans h''⟩⟩
  ·have e:i=xs.length:=by omega
   subst e;rw [List.take_of_length_le (by omega)] at hd;exact .inl ⟨⟨xs,ys,s2.seq hx,s2.seq hy,.inl (Nat.le_refl _)⟩,hq D H2 hD s2 hd⟩
section
variable {X:Cx}{pins:List (Addr×Obj)}{σ:St}{H H':Hp}{s s':Shared}{a:Addr}{cls:Value}{E:Value->Shared->Prop}
end
section
variable {X:Cx}{pins:List (Addr×Obj)}{σ:St}{H H':Hp}{s s':Shared}{a:Addr}{cls:Value}
end
section
variable {P:Program}{w:World}{K:PySem.W.Frag}{mg:Str->Option Value}{base:Heap}{N:List Str}{qual:Str}{scope:Scope}{f:Addr}{cdv:Value}{A:Around}{outer:List Env}{s:Shared}{H:Hp}{E:XK}
end
section
variable {X:Cx}
end
section
variable {prog:Program}{w:World}{A:Around}{E:Value->Shared->Prop}{h:Heap}{g:Array GenState}{d:Drawn}{t:Nat}{os:OsState}
variable {nm q:Str}{Cl Ns:Addr}{bs tl:List Value}{hdct:Bool}{sn:List Str}{sub:List Value}{ab:Bool}{col:Option Bool}{dd:Option Addr}{k0 k1 k2 k3 k5:Option Value}
end
section
variable {M:Model}{A:Around}{E:Value->Shared->Prop}{s:Shared}{env:Env}
variable {nm q:Str}{Cl Ns:Addr}{bs tl:List Value}{hdct:Bool}{sn:List Str}{sub:List Value}{ab:Bool}{col:Option Bool}{dd:Option Addr}{k0 k1 k2 k3 k5:Option Value}{ni:String}
end
section
variable {X:Cx}
end
open PySem.Builtin PySem.Builtin.ObjectAttr
section
variable {prog:Program}{w:World}{A:Around}{E:Value->Shared->Prop}{K:PySem.W.Frag}{C f a x0:Addr}{F:Str}{v:Value}{s:Shared}
end
section
variable {X:Cx}
end
end L2
namespace L2
open PySem PySem.Spec PyProof.Rows
section
variable {X:Cx}{pins:List (Addr×Obj)}{σ:St}{H:Hp}{s:Shared}{a C x0:Addr}{E:Value->Shared->Prop}{od:Option Addr}
end
section
variable {X:Cx}
end
namespace EX
open PySem.W PySem.Calls PySem.Builtin PySem.Builtin.ObjectAttr PySem.Builtin.Getset_descriptor
variable {prog:Program}{w:World}{A:Around}{E:Value->Shared->Prop}{s:Shared}{K:PySem.W.Frag}{a C:Addr}
end EX
section
variable {X:Cx}
end
def Ite (K:PySem.W.Frag)(a:Addr):It :=
 ⟨fun i H=>∃ xs x,SqL K H a xs∧xs[i]?=some x,
  fun i H x H'=>∃ (T:Addr) (u:V),x = .ref T∧H T=none∧H'=upd H T (.tup [.int (i:Nat),u])∧∀ xs,SqL K H a xs->xs[i]?=some u,
  fun i H=>∃ xs,SqL K H a xs∧xs.length<=i⟩
theorem Dp {P:Program}{w:World}{K:PySem.W.Frag}{elts:List Expr}{x1}{pos:Pos}{a e it:Addr}(hne:e≠it) :
  rX P w K (.Tuple elts x1 pos) (Ite K a) [e,it] e (fun i h=>(∃ old,IsEnum h e it i old)∧h.IsListIter it a i) where
 mem:=by simp
 obj:=fun i h st c hc=>by
  obtain ⟨⟨old,h1⟩,⟨o4,e4,c4,d4⟩⟩:=st;simp only [List.mem_cons,List.not_mem_nil,or_false] at hc;rcases hc with rfl | rfl
  ·exact ⟨_,h1,fun v z=>by cases z⟩
  ·exact ⟨_,e4,fun v z=>by rw [d4] at z;cases z⟩
 keep:=fun i h h' st k=>by
  obtain ⟨⟨old,h1⟩,h4⟩:=st;exact ⟨⟨old,k e (by simp) _ h1⟩,h4.at fun o e=>k it (by simp) o e⟩
 item:=by
  intro X hP hw hK hc i pins s σ H E I hf st hg;subst hP hw hK;obtain ⟨xs,x,hq1,hx⟩:=hg;obtain ⟨its,rv,p,hz⟩:=I.list hq1;obtain ⟨u,hu,ru⟩:=rv.get hx;obtain ⟨⟨old,h1⟩,h4⟩:=st;refine wpAny_pyNext_enum_item h1 h4 p.isList (x:=u) (by simpa using hu) hne fun h' z1 z2 z3 z4 z5=>?_
  refine ⟨_,rfl,wpAny_letOwnedTupleGo_enum (s:={ s with heap:=h',toks:=s.toks+1 }) z1 fun h'' y1 y2=>?_⟩;have hT:H s.heap.objs.size=none:=I.hok.fresh (Nat.le_refl _);have I1:Inv X pins σ (upd H s.heap.objs.size (.tup [.int (i:Nat),x])) { s with heap:=s.heap.push { cls:=.type "tuple",data:=.seq #[.int i s.toks,u] },toks:=s.toks+1 } :=
   I.laid (t':=s.toks+1) (fun b u e=>Heap.get?_push_of_some _ e) (Nat.le_refl _) ⟨(by show 2<=sizeLine;rw [sizeLine_eq];decide),[.int i s.toks,u],.cons ⟨_,rfl⟩ (.cons ru .nil),⟨_,Heap.get?_push_size _ rfl,rfl,_,rfl⟩⟩
  have nf:∀ c∈[e,it],c≠s.heap.objs.size:=fun c hc e=>by
   have lt:∃ o,s.heap.get? c=some o:=by
    obtain ⟨o4,e4,_⟩:=id h4;simp only [List.mem_cons,List.not_mem_nil,or_false] at hc;rcases hc with rfl | rfl
    ·exact ⟨_,h1⟩
    ·exact ⟨_,e4⟩
   obtain ⟨o,ho⟩:=lt
   have:=Heap.lt_size ho
   rw [e] at this;exact Nat.lt_irrefl _ this
  have hf1:∀ c∈[e,it],kU X pins (upd H s.heap.objs.size (.tup [.int (i:Nat),x])) c:=fun c hc=>by
   obtain ⟨f0,f⟩:=hf c hc;exact ⟨by rw [aH (nf c hc)];exact f0,f⟩
  have I2:Inv X pins σ (upd H s.heap.objs.size (.tup [.int (i:Nat),x])) { s with heap:=h'',toks:=s.toks+1 } :=
   Inv.turnedL (s:={ s with heap:=s.heap.push { cls:=.type "tuple",data:=.seq #[.int i s.toks,u] },toks:=s.toks+1 }) (t':=s.toks+1) (ch:=[e,it]) I1 (fun b o hb e=>by
    simp only [List.mem_cons,List.not_mem_nil,or_false,not_or] at hb;obtain ⟨b1,b2⟩:=hb;refine (y2.2 b b1).trans ?_;rcases Heap.get?_push_cases e with ⟨rfl,rfl⟩ | e
    ·exact z3
    ·exact z5 b o b1 b2 e) hf1
  refine ⟨.ref s.heap.objs.size,_,I2,rfl,⟨s.heap.objs.size,x,rfl,hT,rfl,fun zs hzs=>by rw [I.list_inj hzs hq1];exact hx⟩,⟨⟨_,by exact_mod_cast y1⟩,?_⟩,fun c hc=>(hf1 c hc).1⟩;exact z2.at fun o e=>(y2.2 it (Ne.symm hne)).trans e
 done:=by
  intro X hP hw hK hc i pins s σ H E I hf st hg;subst hP hw hK;obtain ⟨xs,hq1,hl⟩:=hg;obtain ⟨its,rv,p,hz⟩:=I.list hq1;obtain ⟨⟨old,h1⟩,h4⟩:=st;have l1:=rv.length;refine wpAny_pyNext_enum_end (I.ok.hd hc) h1 h4 p.isList (by simp;omega) fun h' kk=>⟨rfl,?_⟩
  exact I.turnedL (t':=s.toks) (ch:=[e,it]) (fun b o hb e=>by
   simp only [List.mem_cons,List.not_mem_nil,or_false,not_or] at hb;exact kk b o hb.2 e) hf
 self:=fun A i s Q E st h=>wpAny_pyIter_enum st.1.choose_spec h
section
variable {X:Cx}
def Oi (K:PySem.W.Frag)(ta:TA):TI:=fun σ H R=>ta σ H fun xs H1=>∃ a:Addr,xs=[.ref a]∧(∃ us,SqL K H1 a us)∧R (Ite K a) H1
theorem Ib {a:Expr}{ta:TA}{p pos pos':Pos}{elts:List Expr}{x1}(hg:Gl X "enumerate")(hm:X.mg "enumerate" = none)(ha:PA X [a] ta)(hs:starEach [a] X.env=[(false,eval a X.env)]:=by rfl) :
  PI X (.Tuple elts x1 pos') (.Call (.Name "enumerate" p) [a] [] pos) (Oi X.K ta):=by
 intro pins s σ H R I h;refine Call_ (mS I hg hm boot_enumerate (PyProof.Rows.callWith_type1 (thn (ha pos pins s σ H _ I h) fun us s1 ⟨vs,H1,I1,r1,q1⟩=>?_) (by rw [hs];rfl) (by rfl)));obtain ⟨l1,e,⟨us1,hq1⟩,q⟩:=q1;subst e
 cases r1 with
 | cons r rr =>
  cases rr;cases r;obtain ⟨its,rv,p,hz⟩:=I1.list hq1;refine call_enumerate_list p.isList fun h' z1 z2 z3 z4=>?_
  refine wpAny_pyIter_enum (s:={ s1 with heap:=h' }) z1 ?_;have fr:∀ c,s1.heap.objs.size<=c->kU X pins H1 c:=fun c hc=>I1.fpOk hc (I1.hok.fresh hc)
  refine ⟨s1.heap.objs.size+1,[s1.heap.objs.size+1,s1.heap.objs.size],_,_,H1,rfl,I1.kept (t':=s1.toks) z4,Dp (Nat.succ_ne_self _),⟨⟨_,z1⟩,z2⟩,fun c hc=>fr c ?_,q⟩;simp only [List.mem_cons,List.not_mem_nil,or_false] at hc;rcases hc with rfl | rfl
  ·exact Nat.le_add_right _ _
  ·exact Nat.le_refl _
theorem Gk {K:PySem.W.Frag}{a:Addr}{xs:List V}{g:TG}{tb:TS}{D:kF}{σ:St}{H:Hp}(Pv:Nat->St->Hp->Prop)(h0:Pv 0 σ H)(hl:∀ i σ H,i<=xs.length->Pv i σ H->SqL K H a xs)
  (hs:∀ i x T σ H,xs[i]?=some x->H T=none->Pv i σ H->g (.ref T) σ (upd H T (.tup [.int (i:Nat),x])) fun σ2 H2=>tb { D with nx:=Pv (i+1),ct:=Pv (i+1),bk:=D.nx } σ2 H2) (hd:∀ σ H,Pv xs.length σ H->D.nx σ H) :
  ∃ W:Nat->Nat->St->Hp->Prop,(∃ m,W 0 m σ H)∧∀ i m σ H,W i m σ H ->
   ((Ite K a).stop i H∧D.nx σ H)∨((Ite K a).go i H∧∃ N:St->Hp->Prop,(∀ σ' H',N σ' H'->∃ m',m'<m∧W (i+1) m' σ' H')∧∀ x H',(Ite K a).yld i H x H'->g x σ H' fun σ2 H2=>tb { D with nx:=N,ct:=N,bk:=D.nx } σ2 H2):=by
 refine ⟨fun i m σ H=>m=xs.length-i∧i<=xs.length∧Pv i σ H,⟨xs.length,by simp,Nat.zero_le _,h0⟩,?_⟩;rintro i m σ H ⟨rfl,hi,p⟩;have q1:=hl i σ H hi p;by_cases hlt:i<xs.length
 ·refine .inr ⟨⟨xs,xs[i],q1,by simp [hlt]⟩,Pv (i+1),fun σ' H' p'=>⟨xs.length-(i+1),by omega,rfl,hlt,p'⟩,fun x H' y=>?_⟩
  obtain ⟨T,u,rfl,hT,rfl,y1⟩:=y;exact hs i u T σ _ (y1 xs q1) hT p
 ·have e:i=xs.length:=by omega
  subst e;exact .inl ⟨⟨xs,q1,Nat.le_refl _⟩,hd σ H p⟩
end
def Bg (i:Int):Prop:=i.natAbs<2 ^ 8000
theorem Bg.bits {i:Int}(h:Bg i):Builtin.Int.intBits i<=8000:=by
 unfold Builtin.Int.intBits;split
 ·exact Nat.zero_le _
 ·rename_i hn
  have h0:i.natAbs≠0:=fun z=>hn (by rw [Int.natAbs_eq_zero.mp z];rfl)
  exact (Nat.log2_lt h0).mpr h
theorem Bg.mulOk {i j:Int}(hi:Bg i)(hj:Bg j):IntMulOk i j:=by
 unfold IntMulOk Builtin.Int.intTooBig;have h1:=hi.bits;have h2:=hj.bits;have h3:(16000:Int)<=bitsLine:=by decide +kernel
 have h4:decide (((Builtin.Int.intBits i:Nat):Int)+((Builtin.Int.intBits j:Nat):Int)>(bitsLine:Int))=false:=decide_eq_false (by omega);rw [h4,Bool.and_false];exact Bool.false_ne_true
theorem Bg.noPylong {i j:Int}(hj:Bg j):Builtin.divisionGoesByPylong i j=false:=by
 unfold Builtin.divisionGoesByPylong
 have:¬ ((if (j==0)=true then 0 else j.natAbs.log2/30+1)>300):=by
  split
  ·decide
  ·rename_i hn
   have h0:j.natAbs≠0:=fun z=>hn (by rw [Int.natAbs_eq_zero.mp z];rfl)
   have:=(Nat.log2_lt h0).mpr hj
   omega
 dsimp only
 rw [decide_eq_false this];rfl
section
variable {X:Cx}
theorem fQ:OpR X (binaryOp .Mult) (rI (fun i j=>Bg i∧Bg j) fun i j=>.int (i*j)):=opI fun _ _ _ _ _ _ _ hc q=>mul_int q (hc.1.mulOk hc.2)
theorem Gw:OpR X (binaryOp .FloorDiv) (rI (fun _ j=>0<j∧Bg j) fun i j=>.int (i/j)):=opI fun i j _ _ _ _ _ hc q=>by
 have h1:(0:Int)<j:=hc.1;exact floordiv_int (by omega) (by rw [Int.fdiv_eq_ediv_of_nonneg i (by omega)];exact q) (.inl hc.2.noPylong)
end
section
variable {X:Cx}{N':List Str}{scope:Scope}{x y2:Str}{px py py2 pt:Pos}{elt iter:Expr}{pos:Pos}{te:TE}{wi:TI}
theorem Gn (S:tY X.N N' X.env.scope scope x y2)(hc:X.calm=true)(hi:PI X (.Tuple [.Name x px,.Name y2 py2] 0 pt) iter wi)(he:∀ cl C s H fp,PE (bY X N' scope cl C s H fp) elt te)
  (hs:∀ x,foldedSetIterable iter X.env x=pure x:=by intro _;rfl):PE X (.ListComp elt [⟨.Tuple [.Name x px,.Name y2 py2] 0 pt,iter,[],0⟩] scope pos) (Mn X.K wi te):=by
 intro pins s σ H Q I h;rw [eval_ListComp];have hfree:∀ z∈scope.names,z.2 = .free->∃ c,X.env.cells.lookup z.1=some c:=fun z hz hk=>by
  rcases S.ok z hz hk with q | q
  ·exact I.ok.has z.1 (.inl q)
  ·exact I.ok.has z.1 (.inr q)
 refine wpAny_comprehension_free (use:=none) rfl hs (gX hfree) S.kind S.names (thn (hi pins s σ H _ I h) fun xv s1 h1=>thn h1 fun itv s2 h2=>?_);obtain ⟨it,fp,tn,J,H2,e,I2,T,st2,f2,hw⟩:=h2;subst e;obtain ⟨cl,hcl,hrun⟩:=yO (py:=py2) (pt:=pt) (elt:=elt) (iter:=iter) (pos:=pos) (px:=px) (E:=X.xe) (RR:=fun acc C=>compPost (model X.prog X.w) X.A X.xe none (EP X pins σ Q) acc C) S hc he I2 T st2 f2 hw (fun D C s' H' I' ⟨m,hm⟩ n1 n2 n3 n4 n5 q =>
  ⟨m,hm,fun h' hsb=>⟨.ref D,H',I'.turned (it:=C) (t':=s'.toks) (fun b o hb e=>(hsb.2 b hb).trans e) n3 n1 (.inr n4) n2 n5,rfl,q⟩⟩)
 have ecl:(pure (dG X.env.cells scope.names []):Sem (List (Str×Addr)))=pure cl:=(gX hfree).symm.trans hcl;have ecl':dG X.env.cells scope.names []=cl:=by
  injection ecl
 rw [ecl'];exact hrun
end
section
variable {X:Cx}
end
end L2
namespace SR
open PySem PyProof.Rows PySem.Spec
section
variable {prog:Program}{w:World}{A:Around}{E:Value->Shared->Prop}{s:Shared}
end
end SR
namespace L2
open PySem PyProof.Rows PySem.Spec
section
variable {X:Cx}
end
def tupIs (K:PySem.W.Frag)(a:Addr)(ns:List Int):Bool :=
 match K.lookup a with
 | some o=>match o.cls,o.data with
  | .type "tuple",.seq its _=>decide (its.size<=1000)&&(its.toList.map fun v=>match v with | .int i _=>some i | _=>none)==ns.map some
  | _,_=>false
 | none=>false
theorem SqT.tupIs {K:PySem.W.Frag}{a:Addr}{ns:List Int}{H:Hp}(h:tupIs K a ns=true):SqT K H a (ns.map V.int):=by
 unfold L2.tupIs at h
 cases hk:K.lookup a with
 | none=>rw [hk] at h;cases h
 | some o =>
  rw [hk] at h
  dsimp only at h
  split at h
  ·rename_i its n hc hd
   rw [Bool.and_eq_true,decide_eq_true_iff,beq_iff_eq] at h;refine .inr ⟨o,its,n,hk,hc,hd,Nat.le_trans h.1 (by rw [sizeLine_eq];decide),?_⟩;have key:∀ (ns:List Int) (us:List Value),(us.map fun v=>match v with | .int i _=>some i | _=>none)=ns.map some->bT (ns.map V.int) us:=fun ns=>by
    induction ns with
    | nil =>
     intro us hu
     cases us with
     | nil=>exact .nil
     | cons u us=>cases hu
    | cons i ns ih =>
     intro us hu
     cases us with
     | nil=>cases hu
     | cons u us =>
      rw [List.map_cons,List.map_cons] at hu;obtain ⟨h1,h2⟩:=List.cons.inj hu;refine .cons ?_ (ih us h2);split at h1
      ·rename_i j t
       obtain rfl:=Option.some.inj h1;exact ⟨_,rfl⟩
      ·cases h1
   exact key ns _ h.2
  ·cases h
section
variable {X:Cx}
end
def dR (K:PySem.W.Frag)(H:Hp)(as:List Addr)(M:List (List Int)):Prop:=as.length=M.length∧∀ (i:Nat) (a:Addr) (r:List Int),as[i]?=some a->M[i]?=some r->SqL K H a (r.map V.int)
section
variable {K:PySem.W.Frag}{H G:Hp}{as:List Addr}{M:List (List Int)}
theorem dR.on (h:dR K H as M)(s:aM H G):dR K G as M:=⟨h.1,fun i a r e1 e2=>s.seq (h.2 i a r e1 e2)⟩
theorem dR.at (h:dR K H as M){i:Nat}{v:V}(hv:(as.map V.ref)[i]?=some v):∃ (a:Addr) (r:List Int),v = .ref a∧M[i]?=some r∧SqL K H a (r.map V.int):=by
 rw [List.getElem?_map] at hv;obtain ⟨a,ha,rfl⟩:=Option.map_eq_some_iff.mp hv;have hi:=(List.getElem?_eq_some_iff.mp ha).1;obtain ⟨r,hr⟩:∃ r,M[i]?=some r:=⟨_,List.getElem?_eq_getElem (by rw [<- h.1];exact hi)⟩;exact ⟨a,r,rfl,hr,h.2 i a r ha hr⟩
theorem dR.sub (h:dR K H as M)(f:Nat->Nat)(bs:List Addr)(N:List (List Int))(hl:bs.length=N.length)(h1:∀ i b,bs[i]?=some b->as[f i]?=some b)(h2:∀ i r,N[i]?=some r->M[f i]?=some r):dR K H bs N:=⟨hl,fun i a r e1 e2=>h.2 (f i) a r (h1 i a e1) (h2 i r e2)⟩
theorem dR.erase (h:dR K H as M)(p:Nat):dR K H (as.eraseIdx p) (M.eraseIdx p) :=
 h.sub (fun i=>if i<p then i else i+1) _ _ (by rw [List.length_eraseIdx,List.length_eraseIdx,h.1]) (fun i b e=>by rw [List.getElem?_eraseIdx] at e;split <;> simp_all) (fun i b e=>by rw [List.getElem?_eraseIdx] at e;split <;> simp_all)
end
theorem On {K:PySem.W.Frag}{J:It}{as:List Addr}{M:List (List Int)}{te:TE}{σ:St}{H:Hp}{Q:VK}(g:List Int->List Int)(rd:kP J H (as.map V.ref))(hR:dR K H as M)(hn:as.length<=sizeLine)
  (he:∀ a r H',r∈M->SqL K H' a (r.map V.int)->aM H H'->∀ N:V->Hp->Prop,(∀ c H'',aM H' H''->(H' c=none)->H'' c=some (.lst ((g r).map V.int))->N (.ref c) H'')->te (some (.ref a)::σ) H' N)
  (hq:∀ D bs H',H D=none->aM H H'->H' D=some (.lst (bs.map V.ref))->(∀ b∈bs,b≠D)->dR K H' bs (M.map g)->Q (.ref D) H'):iM te σ Q J H:=by
 intro D hD;refine ⟨fun i m ys H2=>m=as.length-i∧i<=as.length∧aM H H2∧H2 D=some (.lst ys)∧∃ bs:List Addr,ys=bs.map V.ref∧bs.length=i∧∀ (j:Nat) (b:Addr) (r:List Int),bs[j]?=some b->M[j]?=some r->b≠D∧H2 b=some (.lst ((g r).map V.int)),⟨as.length,rfl,Nat.zero_le _,fun b o e=>?_,aC,[],rfl,rfl,fun j b r e=>by simp at e⟩,?_⟩
 ·rw [aH (aK e hD)]
  exact e
 ·rintro i m ys H2 ⟨rfl,hi,hs,hd,bs,rfl,hl,hb⟩
  by_cases hlt:i<as.length
  ·have hlt':i<(as.map V.ref).length:=by rw [List.length_map];exact hlt
   obtain ⟨a,r,ha,hr,_⟩:=hR.at (i:=i) (v:=(as.map V.ref)[i]) (List.getElem?_eq_getElem hlt');refine .inr ⟨rd.go i H2 hs hlt',by rw [List.length_map];omega,fun v H'=>aM H2 H'∧∃ c,v = .ref c∧c≠D∧H' c=some (.lst ((g r).map V.int)),fun v H' ⟨hs',c,ev,hcD,hc⟩=>⟨hs' D _ hd,as.length-(i+1),by omega,rfl,hlt,fun b o e=>?kp,aC,bs++[c],?app,by rw [List.length_append,hl];rfl,fun j b r' e1 e2=>?la⟩,fun y H' hy=>?stp⟩
   case app =>
    rw [ev,List.map_append];rfl
   case kp =>
    rw [aH (aK e hD)];exact hs' b o (hs b o e)
   case la =>
    by_cases hj:j<bs.length
    ·rw [List.getElem?_append_left hj] at e1
     obtain ⟨h1,h2⟩:=hb j b r' e1 e2;exact ⟨h1,by rw [aH h1];exact hs' b _ h2⟩
    ·have hj':j=bs.length:=by
      have:=(List.getElem?_eq_some_iff.mp e1).1
      rw [List.length_append,List.length_singleton] at this;omega
     subst hj';rw [List.getElem?_append_right (Nat.le_refl _),Nat.sub_self] at e1;obtain rfl:c=b:=Option.some.inj e1;rw [hl,hr] at e2;obtain rfl:=Option.some.inj e2;exact ⟨hcD,by rw [aH hcD];exact hc⟩
   case stp =>
    obtain ⟨rfl,e2⟩:=rd.yl i H2 y H' hs hy;obtain ⟨a2,r2,rfl,hr2,hs2⟩:=(hR.on hs).at e2;rw [hr] at hr2;obtain rfl:=Option.some.inj hr2;exact he a2 r _ (List.mem_of_getElem? hr) hs2 hs _ fun c H'' s'' hc hc2=>⟨s'',c,rfl,fun z=>(by rw [z,hd] at hc;cases hc),hc2⟩
  ·have e:i=as.length:=by omega
   have hst:=rd.st H2 hs;rw [List.length_map] at hst;subst e;have hlM:=hR.1;refine .inl ⟨hst,hq D bs H2 hD hs hd (fun b hb'=>?_) ⟨by rw [hl,List.length_map,hlM],fun j b r e1 e2=>?_⟩⟩
   ·obtain ⟨j,hj⟩:=List.getElem?_of_mem hb'
    have hjl:=(List.getElem?_eq_some_iff.mp hj).1;exact (hb j b _ hj (List.getElem?_eq_getElem (show j<M.length by omega))).1
   ·rw [List.getElem?_map] at e2
    obtain ⟨r',hr',rfl⟩:=Option.map_eq_some_iff.mp e2;exact SqL.of (hb j b r' e1 hr').2
theorem Nx {K:PySem.W.Frag}{J:It}{as:List Addr}{M:List (List Int)}{te:TE}{σ:St}{H:Hp}{Q:VK}(g:List Int->Int)(rd:kP J H (as.map V.ref))(hR:dR K H as M)(hn:as.length<=sizeLine)
  (he:∀ a r H',r∈M->SqL K H' a (r.map V.int)->aM H H'->∀ N:V->Hp->Prop,(∀ H'',aM H' H''->N (.int (g r)) H'')->te (some (.ref a)::σ) H' N)
  (hq:∀ D H',H D=none->aM H H'->H' D=some (.lst ((M.map g).map V.int))->Q (.ref D) H'):iM te σ Q J H:=by
 intro D hD;have hlM:=hR.1;refine ⟨fun i m ys H2=>m=as.length-i∧i<=as.length∧aM H H2∧H2 D=some (.lst ys)∧ys=((M.take i).map g).map V.int,⟨as.length,rfl,Nat.zero_le _,fun b o e=>?_,aC,rfl⟩,?_⟩
 ·rw [aH (aK e hD)]
  exact e
 ·rintro i m ys H2 ⟨rfl,hi,hs,hd,rfl⟩
  by_cases hlt:i<as.length
  ·have hlt':i<(as.map V.ref).length:=by rw [List.length_map];exact hlt
   have hr:M[i]?=some (M[i]'(by omega)):=List.getElem?_eq_getElem (by omega);refine .inr ⟨rd.go i H2 hs hlt',by rw [List.length_map,List.length_map,List.length_take];omega,fun v H'=>v = .int (g (M[i]'(by omega)))∧aM H2 H',fun v H' ⟨ev,hs'⟩=>⟨hs' D _ hd,as.length-(i+1),by omega,rfl,hlt,fun b o e=>?kp,aC,?app⟩,fun y H' hy=>?stp⟩
   case app =>
    rw [ev,List.take_add_one,hr,List.map_append,List.map_append];rfl
   case kp =>
    rw [aH (aK e hD)];exact hs' b o (hs b o e)
   case stp =>
    obtain ⟨rfl,e2⟩:=rd.yl i H2 y H' hs hy;obtain ⟨a2,r2,rfl,hr2,hs2⟩:=(hR.on hs).at e2;obtain rfl:=Option.some.inj (hr2.symm.trans hr);exact he a2 _ _ (List.mem_of_getElem? hr) hs2 hs _ fun H'' s''=>⟨rfl,s''⟩
  ·have e:i=as.length:=by omega
   have hst:=rd.st H2 hs;rw [List.length_map] at hst;subst e;rw [List.take_of_length_le (by omega)] at hd;exact .inl ⟨hst,hq D H2 hD hs hd⟩
section
variable {X:Cx}{pins:List (Addr×Obj)}{σ:St}{H:Hp}{s:Shared}{a:Addr}{kvs:List (Key×V)}{k:Key}{A:Around}{E:Value->Shared->Prop}
theorem Gc {v:V}{u r:Value}{Q:Value->Shared->Prop}(I:Inv X pins σ H s)(e:H a=some (.dK kvs))(ry:bE (kV k) u)(rv:bE v r)(hz:kvs.length<sizeLine)
  (h1:∀ x,fF kvs k=some x->∀ w' s',Inv X pins σ H s'->bE x w'->Q w' s') (h2:fF kvs k=none->∀ s',Inv X pins σ (upd H a (.dK (cJ kvs k v))) s'->Q r s') :
  wpAny (model X.prog X.w) A (call (.builtin "dict.setdefault") [.ref a,u,r]) Q E s:=by
 obtain ⟨z,hd,vs,rel,dd⟩:=qQ I.hok e;refine call_meetsIn PySem.F.slot_dict_setdefault dd.typeIs PySem.F.entry_dict_setdefault (PySem.F.args_dict_setdefault_3 _ _ _) (kt_meets_setdefault (bH X.prog X.w) a (nS ry) hd r)
  ⟨vs,dd,by rw [<- rel.length];exact z,fun w' hw=>?_,fun hn h' dd' hs=>?_⟩
 ·cases l:fF kvs k with
  | none =>
   have:=iF.none_of (o:=valueAt vs k) (by rw [<- l];exact rel.val k)
   rw [this] at hw;cases hw
  | some x =>
   obtain ⟨w2,hw2,rw2⟩:=iF.some_of (v:=x) (o:=valueAt vs k) (by rw [<- l];exact rel.val k);rw [hw] at hw2;obtain rfl:=Option.some.inj hw2;exact h1 x l w' _ (I.tok _) rw2
 ·have l:fF kvs k=none:=by
   cases l:fF kvs k with
   | none=>rfl
   | some x =>
    obtain ⟨w2,hw2,_⟩:=iF.some_of (v:=x) (o:=valueAt vs k) (by rw [<- l];exact rel.val k);rw [hn] at hw2;cases hw2
  have he:∃ q,h'.get? a=some q:=let ⟨q,_,_,hq,_⟩:=dd';⟨q,hq⟩
  have hl:(cJ kvs k v).length<=sizeLine:=by have:=gU kvs k v;omega
  exact h2 l _ (oV I (by rw [e];exact True.intro) hs he (yN hl hd (rel.put k rv) dd'))
end
def Pf (td ty tx:TE):TE:=fun σ H Q=>td σ H fun x H1=>∃ a,x = .ref a∧(∃ kvs,H1 a=some (.dK kvs))∧ty σ H1 fun y H2=>tx σ H2 fun z H3=>∃ kvs k,H3 a=some (.dK kvs)∧y=kV k∧kvs.length<sizeLine∧(∀ v,fF kvs k=some v->Q v H3)∧(fF kvs k=none->Q z (upd H3 a (.dK (cJ kvs k z))))
section
variable {X:Cx}{o e f:Expr}{apos cpos:Pos}{td ty tx:TE}
theorem oW (ho:PE X o td)(he:PE X e ty)(hf:PE X f tx)(m:M2 X o "setdefault" apos e f cpos):PE X (.Call (.Attribute o "setdefault" apos) [e,f] [] cpos) (Pf td ty tx):=by
 intro pins s σ H Q I h;refine wpAny_Call_method m.base m.few m.line PySem.F.plainAttrs_dict PySem.F.slot_dict_setdefault PySem.F.type_dict_setdefault (thn (ho pins s σ H _ I h) fun u s1 ⟨x,H1,I1,rx,a,ex,⟨kvs0,d⟩,q1⟩=>?_);subst ex;obtain rfl:u=Value.ref a:=rx;obtain ⟨z0,hd0,vs0,rel0,dd0⟩:=qQ I1.hok d;refine ⟨dd0.typeIs,fun b q=>?_,?_⟩
 ·cases q
  obtain ⟨ob,_,_,g1,g2,_⟩:=dd0;exact ⟨ob,g1,g2.2.1⟩
 rw [m.trees];refine Calls.callWith_builtin rfl (Calls.evalArgs_plain (Calls.spliced_cons (thn (he pins s1 σ H1 _ I1 q1) fun iv s2 ⟨y,H2,I2,ry,q2⟩ =>
  Calls.spliced_cons (thn (hf pins s2 σ H2 _ I2 q2) fun fv s3 ⟨z,H3,I3,rz,kvs,k,ea,ey,hz,q3,q4⟩=>Calls.spliced_nil ?_))))
 subst ey;exact Gc I3 ea ry rz hz (fun v l w' s4 I4 rw'=>⟨v,H3,I4,rw',q3 v l⟩) fun l s4 I4=>⟨z,_,I4,rz,q4 l⟩
end
end L2
namespace SS
open PySem PyProof.Rows L2
section
variable {prog:Program}{w:World}{A:Around}{E:Value->Shared->Prop}{s:Shared}
theorem Cv {a:Addr}{vs:List (Key×Value)}{ep:Nat}{R:Result->Shared->Prop}(hh:A.handled=none)(hd:(a==sysModules)=false)(hD:Heap.DictAt (bH prog w) s.heap a vs ep)(hz:vs.length<=sizeLine)(S:Addr)(h1:S≠a)(hS:s.heap.get? S=some { cls:=.type "list",data:=.seq #[] })
  (hR:∀ s' acc' c',(∀ b o,b≠S->s.heap.get? b=some o->s'.heap.get? b=some o)->s'.gens=s.gens->s'.os=s.os->s'.heap.get? S=some { cls:=.type "list",dict:=none,data:=.seq acc' c',slots:=#[] }->ItemsOf (sM vs) acc' vs.length->R (.ok (.ret .none)) s') :
  wpAny (model prog w) A.in1 (Builtin.«list.__init__» ⟨[.ref S,.ref a],[]⟩)
   (fun fin s'=>match fin with | .done f=>R (.ok f) s' | .again c'=>c'.quiet=true∧codeAny (model prog w) A c' R s') (fun e s'=>R (.error e) s') s:=by
 show wpAny _ _ (do let old <- Builtin.List.listItems (.ref S);Builtin.List.listUpdate (.ref S) (fun _=>#[]);letGo old.toList.reverse;Builtin.List.listExtendWith (.ref S) (.ref a) .none) _ _ s;refine wpAny_bind ?_;unfold Builtin.List.listItems;refine wpAny_bind (wpAny_seqItems hS rfl (wpAny_pure ?_));show wpAny _ _ (updateSeq S (fun _=>#[]) >>= fun _=>letGo (#[]:Array Value).toList.reverse >>= fun _=>Builtin.List.listExtendWith (.ref S) (.ref a) .none) _ _ s;refine wpAny_bind (wpAny_updateSeq hS rfl ?_);have hS₂:=Heap.get?_update_self (Obj.mapSeq (fun _=>(#[]:Array Value))) hS rfl;have oth:∀ b o,b≠S->s.heap.get? b=some o->(s.heap.update S (Obj.mapSeq (fun _=>(#[]:Array Value)))).get? b=some o :=
  fun b o hb e=>(Heap.get?_update_other _ _ (Ne.symm hb)).trans e
 refine wpAny_bind (wpAny_letGo ?_);have hD2:Heap.DictAt (bH prog w) (s.heap.update S (Obj.mapSeq (fun _=>(#[]:Array Value)))) a vs ep:=by
  obtain ⟨o,es,g,r⟩:=hD;exact ⟨o,es,oth a o (Ne.symm h1) g,r⟩
 refine qA (A:=A) (s:={ s with heap:=s.heap.update S (Obj.mapSeq (fun _=>(#[]:Array Value))) }) hh hd hD2 hz S .none h1 hS₂ fun s' acc' c' kp g1 g2 e1 e2=>?_
 exact hR s' acc' c' (fun b o hb e=>kp b o hb (oth b o hb e)) g1 g2 e1 e2
theorem qO {a:Addr}{vs:List (Key×Value)}{ep:Nat}{Q:Value->Shared->Prop}(hh:A.handled=none)(hd:(a==sysModules)=false)(hD:Heap.DictAt (bH prog w) s.heap a vs ep)(hz:vs.length<=sizeLine)
  (hQ:∀ (s':Shared) (acc:Array Value) (c':Nat),(∀ b o,s.heap.get? b=some o->s'.heap.get? b=some o)->s'.gens=s.gens->s'.os=s.os->s'.heap.get? s.heap.objs.size=some { cls:=.type "list",dict:=none,data:=.seq acc c',slots:=#[] }->ItemsOf (sM vs) acc vs.length->Q (.ref s.heap.objs.size) s') :
  wpAny (model prog w) A (call (.type "list") [.ref a]) Q E s:=by
 have hlt:a<s.heap.objs.size:=by obtain ⟨o,es,g,r⟩:=hD;exact Heap.lt_size g
 refine callType_codes (Q₁:=fun obj s₁=>obj = .ref s.heap.objs.size∧s₁ = { s with heap:=s.heap.push { cls:=.type "list",data:=.seq #[] } }) F.called_list (F.typeCall_list_1 _) F.entry_list_init
  (code_list_new _ ⟨rfl,rfl⟩) fun obj s₁ h₁=>?_
 obtain ⟨rfl,rfl⟩:=h₁;have hS:(s.heap.push { cls:=.type "list",data:=.seq #[] }).get? s.heap.objs.size=some { cls:=.type "list",data:=.seq #[] }:=Heap.get?_push_size _ rfl
 refine ⟨⟨_,hS,rfl⟩,F.args_list_init_2 _ _,Cv (A:=A.in1) (s:={ s with heap:=s.heap.push { cls:=.type "list",data:=.seq #[] } }) hh hd (pY hD) hz _ (Nat.ne_of_gt hlt) hS fun s' acc' c' kp g1 g2 e1 e2=>?_⟩
 exact ⟨rfl,hQ s' acc' c' (fun b o e=>kp b o (Nat.ne_of_lt (Heap.lt_size e)) (Heap.get?_push_of_some _ e)) g1 g2 e1 e2⟩
end
end SS
namespace L2
open PySem PyProof.Rows
section
variable {X:Cx}
theorem tO:∀ {us:List Value} {ls:List (List Nat)},StrsAre us (ls.map tx)->bT (ls.map T) us
 | [],[],_=>.nil
 | u::us,l::ls,h=>by
  cases h with
  | cons x t r=>exact .cons ⟨_,rfl⟩ (tO r)
theorem lH (hc:X.calm=true):eI X (.type "list") (fun xs H Q=>∃ (p:Addr) (ls:List (List Nat)) (kvs:List (Key×V)),xs=[.ref p]∧H p=some (.dK kvs)∧kvs.map (·.1)=ls.map (fun t=>Sum.inr (tx t))∧∀ (D:Addr),H D=none->Q (.ref D) (upd H D (.lst (ls.map T)))):=by
 intro pins s σ H xs us Q I r h;obtain ⟨p,ls,kvs,rfl,hq,hk,q⟩:=h;obtain ⟨u,rfl,ru⟩:=fU r;cases ru;obtain ⟨z,hd,vs,rel,dd⟩:=qQ I.hok hq;obtain ⟨o,es,ep,rest⟩:=dd;have hl:ls.length=kvs.length:=by have:=congrArg List.length hk;simpa using this.symm
 refine SS.qO (vs:=vs) (ep:=ep) (I.ok.hd hc) hd ⟨o,es,rest⟩ (by rw [<- rel.length];exact z) fun s' acc c' kp g1 g2 e1 e2=>?_
 have hv:=tO (sP hk rel e2);have hg:AllBare s'.gens:=by rw [g1];exact I.bare
 have hf:H s.heap.objs.size=none:=I.hok.fresh (Nat.le_refl _);have new:cG X.prog X.w (upd H s.heap.objs.size (.lst (ls.map T))) s'.heap s.heap.objs.size (.lst (ls.map T)):=⟨by rw [List.length_map,hl];exact z,acc.toList,c',hv,by simpa using e1⟩;exact ⟨.ref s.heap.objs.size,_,I.call' (ch:=[]) g2 (Un.laid kp (Nat.le_refl _) hf) (I.hok.laid kp (Nat.le_refl _) new) hg (fun _ z=>nomatch z),rfl,q _ hf⟩
end
theorem Lf {K:PySem.W.Frag}{J:It}{vs:List V}{te:TE}{σ:St}{H:Hp}{Q:VK}(g:V->List Int)(rd:kP J H vs)(hn:vs.length<=sizeLine)
  (he:∀ v H',v∈vs->aM H H'->∀ N:V->Hp->Prop,(∀ c H'',aM H' H''->H' c=none->H'' c=some (.lst ((g v).map V.int))->N (.ref c) H'')->te (some v::σ) H' N)
  (hq:∀ D bs H',H D=none->aM H H'->H' D=some (.lst (bs.map V.ref))->(∀ b∈bs,b≠D)->dR K H' bs (vs.map g)->Q (.ref D) H'):iM te σ Q J H:=by
 intro D hD;refine ⟨fun i m ys H2=>m=vs.length-i∧i<=vs.length∧aM H H2∧H2 D=some (.lst ys)∧∃ bs:List Addr,ys=bs.map V.ref∧bs.length=i∧∀ (j:Nat) (b:Addr) (v:V),bs[j]?=some b->vs[j]?=some v->b≠D∧H2 b=some (.lst ((g v).map V.int)),⟨vs.length,rfl,Nat.zero_le _,fun b o e=>?_,aC,[],rfl,rfl,fun j b r e=>by simp at e⟩,?_⟩
 ·rw [aH (aK e hD)]
  exact e
 ·rintro i m ys H2 ⟨rfl,hi,hs,hd,bs,rfl,hl,hb⟩
  by_cases hlt:i<vs.length
  ·obtain ⟨r,hr⟩:∃ r,vs[i]?=some r:=⟨_,List.getElem?_eq_getElem hlt⟩
   refine .inr ⟨rd.go i H2 hs hlt,by rw [List.length_map];omega,fun v H'=>aM H2 H'∧∃ c,v = .ref c∧c≠D∧H' c=some (.lst ((g r).map V.int)),fun v H' ⟨hs',c,ev,hcD,hc⟩=>⟨hs' D _ hd,vs.length-(i+1),by omega,rfl,hlt,fun b o e=>?kp,aC,bs++[c],?app,by rw [List.length_append,hl];rfl,fun j b r' e1 e2=>?la⟩,fun y H' hy=>?stp⟩
   case app =>
    rw [ev,List.map_append];rfl
   case kp =>
    rw [aH (aK e hD)];exact hs' b o (hs b o e)
   case la =>
    by_cases hj:j<bs.length
    ·rw [List.getElem?_append_left hj] at e1
     obtain ⟨h1,h2⟩:=hb j b r' e1 e2;exact ⟨h1,by rw [aH h1];exact hs' b _ h2⟩
    ·have hj':j=bs.length:=by
      have:=(List.getElem?_eq_some_iff.mp e1).1
      rw [List.length_append,List.length_singleton] at this;omega
     subst hj';rw [List.getElem?_append_right (Nat.le_refl _),Nat.sub_self] at e1;obtain rfl:c=b:=Option.some.inj e1;rw [hl,hr] at e2;obtain rfl:=Option.some.inj e2;exact ⟨hcD,by rw [aH hcD];exact hc⟩
   case stp =>
    obtain ⟨rfl,e2⟩:=rd.yl i H2 y H' hs hy;rw [hr] at e2;obtain rfl:=Option.some.inj e2;exact he r _ (List.mem_of_getElem? hr) hs _ fun c H'' s'' hc hc2=>⟨s'',c,rfl,fun z=>(by rw [z,hd] at hc;cases hc),hc2⟩
  ·have e:i=vs.length:=by omega
   have hst:=rd.st H2 hs;subst e;refine .inl ⟨hst,hq D bs H2 hD hs hd (fun b hb'=>?_) ⟨by rw [hl,List.length_map],fun j b r e1 e2=>?_⟩⟩
   ·obtain ⟨j,hj⟩:=List.getElem?_of_mem hb'
    have hjl:=(List.getElem?_eq_some_iff.mp hj).1;exact (hb j b _ hj (List.getElem?_eq_getElem (show j<vs.length by omega))).1
   ·rw [List.getElem?_map] at e2
    obtain ⟨r',hr',rfl⟩:=Option.map_eq_some_iff.mp e2;exact SqL.of (hb j b r' e1 hr').2
section
variable {X:Cx}{pins:List (Addr×Obj)}{σ:List (Option V)}{H H':Hp}{s:Shared}
theorem Inv.reH (I:Inv X pins σ H s)(free:∀ b,H b=none->H' b=none)(tups:∀ b xs,X.H₀ b=some (.tup xs)->H' b=some (.tup xs))(frzs:∀ b o u,X.H₀ b=some (.frz o u)->H' b=some (.frz o u))(tbls:∀ b ps,X.H₀ b=some (.tbl ps)->∃ more,H' b=some (.tbl (ps++more)))
  (hok:HOk X.prog X.w H' s.heap):Inv X pins σ H' s :=
 ⟨I.ok,I.os,I.bare,⟨I.base.keep,I.base.slot,fun b o e n hx=>free b (I.base.free b o e n hx),I.base.there,tups,frzs,tbls⟩,I.loc,I.cell,free _ I.free,fun x c e=>free _ (I.freeC x c e),fun p hp=>⟨(I.pin p hp).1,free _ (I.pin p hp).2.1,(I.pin p hp).2.2⟩,hok,I.len⟩
theorem Ac {P:Program}{w:World}{h:Heap}{a:Addr}{u v:HO}(x:HOk P w H h)(ha:H a=some u)(h1:∀ y,u≠.own y)(h2:∀ xs,u≠.tup xs)(ok:cG P w H h a v):HOk P w (upd H a v) h:=by
 have ho:∀ y b,H b=some (.own y)->upd H a v b=some (.own y):=fun y b e=>by
  rw [aH (fun z=>by rw [z,ha] at e;exact h1 y (Option.some.inj e))];exact e
 have ht:∀ b xs,H b=some (.tup xs)->upd H a v b=some (.tup xs):=fun b xs e=>by
  rw [aH (fun z=>by rw [z,ha] at e;exact h2 xs (Option.some.inj e))];exact e
 intro b o e;by_cases c:b=a
 ·subst c
  rw [aC] at e;cases e;exact ok.stay (fun _ _ _ e=>e) (fun c=>ho b c) ht
 ·rw [aH c] at e
  exact (x b o e).stay (fun _ _ _ e=>e) (fun c=>ho b c) ht
theorem Inv.freeze {a:Addr}{kvs:List (Key×V)}(I:Inv X pins σ H s)(e:H a=some (.dK kvs)):∃ o,s.heap.get? a=some o∧Inv X pins σ (upd H a (.frz o (.dK kvs))) s:=by
 have hx:cG X.prog X.w H s.heap a (.dK kvs):=I.hok a _ e;obtain ⟨o,ho⟩:∃ o,s.heap.get? a=some o:=by
  obtain ⟨_,_,_,_,o,_,_,q,_⟩:=hx;exact ⟨o,q⟩
 have ne:∀ b u,X.H₀ b=some u->H b=some u->(∀ k,u≠.dK k)->upd H a (.frz o (.dK kvs)) b=some u:=fun b u _ q n=>by
  rw [aH (fun z=>by rw [z,e] at q;exact n _ (Option.some.inj q).symm)];exact q
 refine ⟨o,ho,I.reH (fun b n=>?_) (fun b xs q=>ne b _ q (I.base.tups b xs q) (fun k z=>nomatch z)) (fun b o' u q=>ne b _ q (I.base.frzs b o' u q) (fun k z=>nomatch z)) (fun b ps q=>?_) (Ac I.hok e (fun y z=>nomatch z) (fun xs z=>nomatch z) ⟨ho,hx⟩)⟩
 ·rw [aH (fun z=>by rw [z,e] at n;cases n)];exact n
 ·obtain ⟨m,q'⟩:=I.base.tbls b ps q
  exact ⟨m,by rw [aH (fun z=>by rw [z,e] at q';cases q')];exact q'⟩
end
def Itk (a:Addr)(o:Obj)(kvs:List (Key×V)):It :=
 ⟨fun i H=>H a=some (.frz o (.dK kvs))∧i<kvs.length,fun i H x H'=>H'=H∧∃ kv,kvs[i]?=some kv∧x=kV kv.1,fun i H=>H a=some (.frz o (.dK kvs))∧kvs.length<=i⟩
theorem Fh {P:Program}{w:World}{k:Key}{u:Value}(h:(bH P w).is k u=true):bE (kV k) u:=by
 cases k with
 | inl i =>
  have h:Value.isInt i u=true:=h
  have:∃ t,u = .int i t:=by cases u <;> simp_all [Value.isInt]
  obtain ⟨t,rfl⟩:=this;exact ⟨t,rfl⟩
 | inr x =>
  obtain ⟨t,rfl⟩:=Value.isStrOf_shape (show Value.isStrOf x u=true from h);exact ⟨t,rfl⟩
theorem Bp {P:Program}{w:World}{K:PySem.W.Frag}{tg:Expr}{a it:Addr}{o:Obj}{kvs:List (Key×V)}{vs:List (Key×Value)}{ep:Nat}(hK:KV kvs vs)(hd:∀ h:Heap,h.get? a=some o->h.DictAt (bH P w) a vs ep) :
  rX P w K tg (Itk a o kvs) [it] it (fun i h=>h.IsKeyIter it a i vs.length ep) where
 mem:=by simp
 obj:=fun i h st b hb=>by
  have e:b=it:=by simpa using hb
  subst e;obtain ⟨o,e,c,d⟩:=st;exact ⟨o,e,fun v z=>by rw [d] at z;cases z⟩
 keep:=fun i h h' st k=>st.at fun o e=>k it (by simp) o e
 item:=by
  intro X hP hw hK' hc i pins s σ H E I hf st hg;subst hP hw hK';obtain ⟨ha,hi⟩:=hg;obtain ⟨ho,_⟩:cG X.prog X.w H s.heap a (.frz o (.dK kvs)):=I.hok a _ ha;have hl:=hK.length;obtain ⟨f0,f1,f2,f3,f4,f5⟩:=hf it (by simp);have hvi:vs[i]?=some vs[i]:=List.getElem?_eq_getElem (by omega);have hki:kvs[i]?=some kvs[i]:=List.getElem?_eq_getElem hi;have hkk:kvs[i].1=vs[i].1:=by
   have:=hK.keys
   have h1:(kvs.map (·.1))[i]?=(vs.map (·.1))[i]?:=by rw [this]
   rw [List.getElem?_map,List.getElem?_map,hki,hvi] at h1;exact Option.some.inj h1
  refine wpAny_pyNext_dict_item (k:=vs[i].1) (v:=vs[i].2) st (hd _ ho) hvi fun key h' hkey st' sb=>?_
  have I1:Inv X pins σ H { s with heap:=h' }:=I.turned (t':=s.toks) (fun b o hb e=>(sb.2 b hb).trans e) f0 f1 f3 f4 f5;exact ⟨key,rfl,letGo_keyiter (s':={ s with heap:=h' }) st' ⟨kV kvs[i].1,H,I1,by rw [hkk];exact Fh hkey,⟨rfl,_,hki,rfl⟩,st',fun b hb=>(hf b hb).1⟩⟩
 done:=by
  intro X hP hw hK' hc i pins s σ H E I hf st hg;subst hP hw hK';obtain ⟨ha,hi⟩:=hg;obtain ⟨ho,_⟩:cG X.prog X.w H s.heap a (.frz o (.dK kvs)):=I.hok a _ ha;have hl:=hK.length;obtain ⟨f0,f1,f2,f3,f4,f5⟩:=hf it (by simp);exact wpAny_pyNext_dict_end (I.ok.hd hc) st (hd _ ho) (List.getElem?_eq_none (by omega)) fun h' eb=>⟨rfl,I.turned (t':=s.toks) (fun b o hb e=>eb b o hb e) f0 f1 f3 f4 f5⟩
 self:=fun _ _ _ _ _ st h=>wpAny_pyIter_keyiter st h
def Ph (td:TE):TI:=fun σ H R=>td σ H fun x H1=>∃ a kvs,x = .ref a∧H1 a=some (.dK kvs)∧∀ o,R (Itk a o kvs) (upd H1 a (.frz o (.dK kvs)))
section
variable {X:Cx}{tg:Expr}
theorem Jm {l:Expr}{tl:TE}(hl:PE X l tl):PI X tg l (Ph tl):=by
 intro pins s σ H R I h;refine thn (hl pins s σ H _ I h) fun v s1 ⟨x,H1,I1,r1,q1⟩=>?_
 obtain ⟨a,kvs,e,ha,q⟩:=q1;subst e;cases r1;obtain ⟨z,hsm,vs,rel,dd⟩:=qQ I1.hok ha;obtain ⟨ep,dat⟩:=dd.dictAt;obtain ⟨o,ho,I2⟩:=I1.freeze ha;refine wpAny_pyIter_dict hsm dat ?_;refine ⟨s1.heap.objs.size,[s1.heap.objs.size],_,_,_,rfl,I2.kept (t':=s1.toks) fun b o e=>Heap.get?_push_of_some _ e,Bp rel (fun h e=>dat.at' fun o' e'=>by rw [ho] at e';rw [<- e'];exact e),⟨_,Heap.get?_push_size _ rfl,rfl,rfl⟩,fun b hb=>?_,q o⟩;have e:b=s1.heap.objs.size:=by simpa using hb
 subst e;exact I2.fpOk (Nat.le_refl _) (I2.hok.fresh (Nat.le_refl _))
end
section
variable {X:Cx}{o:Expr}{td:TE}{apos cpos:Pos}
end
open PySem.Spec
section
variable {X:Cx}
end
end L2
namespace L2
open PySem PyProof.Rows
section
variable {X:Cx}{pins:List (Addr×Obj)}{σ:St}{H:Hp}{s:Shared}
theorem Inv.thawD {a:Addr}{o:Obj}{kvs k0:List (Key×V)}(I:Inv X pins σ H s)(e:H a=some (.frz o (.dK kvs)))(h0:X.H₀ a=some (.dK k0)):Inv X pins σ (upd H a (.dK kvs)) s:=by
 obtain ⟨_,hx⟩:cG X.prog X.w H s.heap a (.frz o (.dK kvs)):=I.hok a _ e;refine I.reH (fun b n=>?_) (fun b xs q=>?_) (fun b o' u q=>?_) (fun b ps q=>?_) (Ac I.hok e (fun y z=>nomatch z) (fun xs z=>nomatch z) hx)
 ·rw [aH (fun z=>by rw [z,e] at n;cases n)];exact n
 ·rw [aH (fun z=>by rw [z,h0] at q;cases q)];exact I.base.tups b xs q
 ·rw [aH (fun z=>by rw [z,h0] at q;cases q)];exact I.base.frzs b o' u q
 ·rw [aH (fun z=>by rw [z,h0] at q;cases q)];exact I.base.tbls b ps q
def Mr (H₀:Hp)(t:TE):TE:=fun σ H Q=>t σ H fun v H'=>∃ a o kvs k0,H' a=some (.frz o (.dK kvs))∧H₀ a=some (.dK k0)∧Q v (upd H' a (.dK kvs))
theorem wC {e:Expr}{t:TE}(h:PE X e t):PE X e (Mr X.H₀ t):=by
 intro pins s σ H Q I hw;refine thn (h pins s σ H _ I hw) fun v s1 ⟨x,H1,I1,r1,a,o,kvs,k0,ha,h0,q⟩=>?_
 exact ⟨x,_,I1.thawD ha h0,r1,q⟩
end
section
variable {X:Cx}
theorem Ca:eI X (.builtin "len") (fun xs H Q=>∃ a kvs,xs=[V.ref a]∧Rd H a (.dK kvs)∧Q (.int kvs.length) H):=by
 intro pins s σ H xs us Q I r h;obtain ⟨a,kvs,rfl,ha,q⟩:=h;obtain ⟨u,rfl,ru⟩:=fU r;cases ru;exact Km I ha fun t s' I'=>⟨.int kvs.length,H,I',⟨t,rfl⟩,q⟩
end
theorem En {a:Addr}{o:Obj}{kvs:List (Key×V)}{g:TG}{tb:TS}{D:kF}{σ:St}{H:Hp}(Pv:Nat->St->Hp->Prop)(h0:Pv 0 σ H)(hl:∀ i σ H,i<=kvs.length->Pv i σ H->H a=some (.frz o (.dK kvs)))
  (hs:∀ i kv σ H,kvs[i]?=some kv->Pv i σ H->g (kV kv.1) σ H fun σ2 H2=>tb { D with nx:=Pv (i+1),ct:=Pv (i+1),bk:=D.nx } σ2 H2) (hd:∀ σ H,Pv kvs.length σ H->D.nx σ H) :
  ∃ W:Nat->Nat->St->Hp->Prop,(∃ m,W 0 m σ H)∧∀ i m σ H,W i m σ H ->
   ((Itk a o kvs).stop i H∧D.nx σ H)∨((Itk a o kvs).go i H∧∃ N:St->Hp->Prop,(∀ σ' H',N σ' H'->∃ m',m'<m∧W (i+1) m' σ' H')∧∀ x H',(Itk a o kvs).yld i H x H'->g x σ H' fun σ2 H2=>tb { D with nx:=N,ct:=N,bk:=D.nx } σ2 H2):=by
 refine ⟨fun i m σ H=>m=kvs.length-i∧i<=kvs.length∧Pv i σ H,⟨kvs.length,by simp,Nat.zero_le _,h0⟩,?_⟩;rintro i m σ H ⟨rfl,hi,p⟩;have hA:=hl i σ H hi p;by_cases hlt:i<kvs.length
 ·refine .inr ⟨⟨hA,hlt⟩,Pv (i+1),fun σ' H' p'=>⟨kvs.length-(i+1),by omega,rfl,hlt,p'⟩,fun x H' hy=>?_⟩
  obtain ⟨rfl,kv,e,rfl⟩:=hy;exact hs i kv σ _ e p
 ·have e:i=kvs.length:=by omega
  subst e;exact .inl ⟨⟨hA,Nat.le_refl _⟩,hd σ H p⟩
open PySem.Spec
section
variable {M:Model}{A:Around}{E:Value->Shared->Prop}{s:Shared}
end
section
variable {X:Cx}{N':List Str}{scope:Scope}{x:Str}{px:Pos}{elt iter:Expr}{cds:List Expr}{pos:Pos}{te:TE}{tc:TT}{wi:TI}
end
section
variable {X:Cx}
end
section
variable {X:Cx}{N':List Str}{scope:Scope}{x:Str}{px:Pos}{elt iter cd:Expr}{pos:Pos}{te:TE}{tc:TT}{wi:TI}
end
end L2
namespace L2
open PySem PyProof.Rows
def SqA (K:PySem.W.Frag)(H:Hp)(a:Addr)(xs:List V):Prop:=SqL K H a xs∨SqT K H a xs
theorem SqA.on {K:PySem.W.Frag}{H H':Hp}{a:Addr}{xs:List V}(h:SqA K H a xs)(s:aM H H'):SqA K H' a xs:=h.elim (fun h=>.inl (s.seq h)) fun h=>.inr (wT s h)
def iSq (K:PySem.W.Frag)(tl:TE):TI:=fun σ H R=>tl σ H fun x H1=>∃ a xs H0,x = .ref a∧SqA K H0 a xs∧aM H0 H1∧∀ J,kP J H0 xs->R J H1
section
variable {X:Cx}{tg:Expr}
theorem Nb {l:Expr}{tl:TE}(hl:PE X l tl):PI X tg l (iSq X.K tl):=by
 intro pins s σ H R I h;refine thn (hl pins s σ H _ I h) fun v s1 ⟨x,H1,I1,r1,q1⟩=>?_
 obtain ⟨a,xs,H0,e,hq0 | hq0,s0,q0⟩:=q1
 ·have hq:=s0.seq hq0
  have q:=q0 _ (cW hq0);subst e;cases r1;obtain ⟨its,rv,p,hz⟩:=I1.list hq;refine wpAny_pyIter_list p.isList ?_;refine ⟨s1.heap.objs.size,[s1.heap.objs.size],_,_,H1,rfl,I1.kept (t':=s1.toks) fun b o e=>Heap.get?_push_of_some _ e,sW a _,⟨_,Heap.get?_push_size _ rfl,rfl,rfl⟩,fun b hb=>?_,q⟩;have e:b=s1.heap.objs.size:=by simpa using hb
  subst e;exact I1.fpOk (Nat.le_refl _) (I1.hok.fresh (Nat.le_refl _))
 ·have hq:=wT s0 hq0
  have q:=q0 _ (jX hq0);subst e;cases r1;obtain ⟨its,rv,p,hz⟩:=I1.tuple hq;refine wpAny_pyIter_tuple (show s1.heap.IsTuple a its.toArray from p) ?_;refine ⟨s1.heap.objs.size,[s1.heap.objs.size],_,_,H1,rfl,I1.kept (t':=s1.toks) fun b o e=>Heap.get?_push_of_some _ e,pO a _,⟨_,Heap.get?_push_size _ rfl,rfl,rfl⟩,fun b hb=>?_,q⟩;have e:b=s1.heap.objs.size:=by simpa using hb
  subst e;exact I1.fpOk (Nat.le_refl _) (I1.hok.fresh (Nat.le_refl _))
theorem oJ (K:PySem.W.Frag)(hK:X.K=K){l:Expr}{tl:TE}(hl:PE X l tl):PI X tg l (iSq K tl):=by
 subst hK;exact Nb hl
end
theorem sJ {J:It}{H0:Hp}{vs:List V}{g:TG}{tb:TS}{D:kF}{σ:St}{H:Hp}(rd:kP J H0 vs)(Pv:Nat->St->Hp->Prop)(h0:Pv 0 σ H)(hl:∀ i σ H,i<=vs.length->Pv i σ H->aM H0 H)
  (hs:∀ i x σ H,vs[i]?=some x->Pv i σ H->g x σ H fun σ2 H2=>tb { D with nx:=Pv (i+1),ct:=Pv (i+1),bk:=D.nx } σ2 H2) (hd:∀ σ H,Pv vs.length σ H->D.nx σ H) :
  ∃ W:Nat->Nat->St->Hp->Prop,(∃ m,W 0 m σ H)∧∀ i m σ H,W i m σ H ->
   (J.stop i H∧D.nx σ H)∨(J.go i H∧∃ N:St->Hp->Prop,(∀ σ' H',N σ' H'->∃ m',m'<m∧W (i+1) m' σ' H')∧∀ x H',J.yld i H x H'->g x σ H' fun σ2 H2=>tb { D with nx:=N,ct:=N,bk:=D.nx } σ2 H2):=by
 refine ⟨fun i m σ H=>m=vs.length-i∧i<=vs.length∧Pv i σ H,⟨vs.length,by simp,Nat.zero_le _,h0⟩,?_⟩;rintro i m σ H ⟨rfl,hi,p⟩;have hA:=hl i σ H hi p;by_cases hlt:i<vs.length
 ·refine .inr ⟨rd.go i H hA hlt,Pv (i+1),fun σ' H' p'=>⟨vs.length-(i+1),by omega,rfl,hlt,p'⟩,fun x H' hy=>?_⟩
  obtain ⟨rfl,e⟩:=rd.yl i H x H' hA hy;exact hs i x σ _ e p
 ·have e:i=vs.length:=by omega
  subst e;exact .inl ⟨rd.st H hA,hd σ H p⟩
open PySem.Spec
section
variable {X:Cx}
theorem qZ {pins:List (Addr×Obj)}{σ:St}{H:Hp}{s:Shared}{v:Value}{ls:List (List Nat)}{Q:VK}(h64:ls.length<64)
  (hc:∀ (A':Around) (Q':List Value->Shared->Prop),A'.handled=X.A.handled->(∀ (vs:List Value) (ss:List Str) (s1:Shared),StrsAre vs ss->ss.Perm (ls.map tx)->Inv X pins σ H s1->Q' vs s1)->wpAny (model X.prog X.w) A' (collect v) Q' X.xe s)
  (q:∀ (ms:List (List Nat)) (D:Addr),H D=none->ms.Perm ls->ms.Pairwise (fun a b=>¬ b<a)->Q (.ref D) (upd H D (.lst (ms.map T)))) :
  wpAny (model X.prog X.w) X.A (call (.builtin "sorted") [v]) (EP X pins σ Q) X.xe s:=by
 have hz:ls.length<=sizeLine:=by rw [sizeLine_eq];omega
 refine Calls.call_function_entry kind_sorted plain_sorted entry_sorted (args_sorted1 _) ?_;unfold Builtin.«sorted»;refine wpAny_bind (m:=checkCount "sorted" 1 1 _) (wpAny_pure (wpAny_bind (hc _ _ (by simp) fun vs ss s1 hS hp I1=>wpAny_bind (wpAny_newList ?_ (by rw [hS.length,hp.length_eq,List.length_map];exact hz)))))
 have e2:(s1.heap.push (seqObj "list" vs.toArray 0)).get? s1.heap.objs.size=some (seqObj "list" vs.toArray 0):=Heap.get?_push_size _ rfl
 have hvl:vs.length=ls.length:=by rw [hS.length,hp.length_eq,List.length_map]
 show wpAny _ _ _ _ _ { s1 with heap:=s1.heap.push (seqObj "list" vs.toArray 0) }
 have key:∀ (out:Array Value) (ss':List Str),StrsAre out.toList ss'->ss'.Perm ss->sortedS ss'=true->EP X pins σ Q (.ref s1.heap.objs.size) { s1 with heap:=sortedHeap (s1.heap.push (seqObj "list" vs.toArray 0)) s1.heap.objs.size vs out }:=fun out ss' b1 b2 b3=>by
  obtain ⟨e,he⟩:=sortedHeap_at (out:=out) e2;have em:(ss'.map fun x=>x.cps.toList).map tx=ss':=by
   rw [List.map_map]
   conv=>rhs;rw [<- List.map_id ss']
   exact List.map_congr_left fun x _=>iN x
  have hp':(ss'.map fun x=>x.cps.toList).Perm ls:=by
   have y:=(b2.trans hp).map fun x=>x.cps.toList
   rw [List.map_map,show (fun x=>x.cps.toList)∘tx=id from funext dH,List.map_id] at y;exact y
  refine ⟨.ref _,_,I1.laid (t':=s1.toks) (fun b o eo=>?_) (Nat.le_refl _) (o:=.lst ((ss'.map fun x=>x.cps.toList).map T)) ⟨?_,out.toList,e,mU b1,by simpa using he⟩,rfl,q _ _ (I1.hok.fresh (Nat.le_refl _)) hp' (sA _ (by rw [em];exact b3))⟩
  ·have hlt:=Heap.lt_size eo
   rw [sortedHeap_old (Nat.ne_of_lt hlt) (by rw [size_push'];exact Nat.lt_succ_of_lt hlt)];exact Heap.get?_push_of_some _ eo
  ·rw [List.length_map,hp'.length_eq]
   exact hz
 refine wpAny_bind (wpAny_holding (wpAny_call_entry slot_list_sort ⟨_,e2,rfl⟩ entry_list_sort (list_sort_treeK strKind_oneLt e2 hS.keysOf (fun v1 v2 r e=>?_) (by omega) fun st' a1 a2=>⟨_,rfl,wpAny_pure ⟨_,rfl,?_⟩⟩) (args_list_sort _)))
 ·have hS2:=hS
  rw [e] at hS2;exact keyKind_strs hS2
 ·obtain ⟨ss',b1,b2,b3⟩:=sorted_out_str hS a1 a2
  exact key _ ss' b1 b2 b3
theorem kN (hc:X.calm=true):eI X (.builtin "sorted") (fun xs H Q=>∃ (p:Addr) (ls:List (List Nat)),xs=[.ref p]∧H p=some (kG X.w p ls)∧ls.length<64∧∀ (ms:List (List Nat)) (D:Addr),H D=none->ms.Perm ls->ms.Pairwise (fun a b=>¬ b<a)->Q (.ref D) (upd H D (.lst (ms.map T)))):=by
 intro pins s σ H xs us Q I r h;obtain ⟨p,ls,rfl,hq,hz,q⟩:=h;obtain ⟨u,rfl,ru⟩:=fU r;cases ru;have hs:sizeLine=16777216:=sizeLine_eq;refine qZ hz (fun A' Q' hA hQ=>SS.lD (by rw [hA];exact I.ok.hd hc) (vV I hq) (by rw [List.length_map];omega) fun s' vs ss kp g1 g2 e1 e2=>hQ vs ss s' e1 e2 ?_) q;have hg:AllBare s'.gens:=by rw [g1];exact I.bare
 exact I.call' (ch:=[]) g2 (Un.kept kp) (I.hok.kept kp) hg fun _ z=>nomatch z
theorem rM (hc:X.calm=true):eI X (.builtin "sorted") (fun xs H Q=>∃ (p:Addr) (ls:List (List Nat)) (kvs:List (Key×V)),xs=[.ref p]∧H p=some (.dK kvs)∧kvs.map (·.1)=ls.map (fun t=>Sum.inr (tx t))∧ls.length<64∧∀ (ms:List (List Nat)) (D:Addr),H D=none->ms.Perm ls->ms.Pairwise (fun a b=>¬ b<a)->Q (.ref D) (upd H D (.lst (ms.map T)))):=by
 intro pins s σ H xs us Q I r h;obtain ⟨p,ls,kvs,rfl,hq,hk,h64,q⟩:=h;obtain ⟨u,rfl,ru⟩:=fU r;cases ru;obtain ⟨z,hd,vs,rel,dd⟩:=qQ I.hok hq;obtain ⟨o,es,ep,rest⟩:=dd;have hl:ls.length=kvs.length:=by have:=congrArg List.length hk;simpa using this.symm
 refine qZ h64 (fun A' Q' hA hQ=>SS.xB (vs:=vs) (ep:=ep) (by rw [hA];exact I.ok.hd hc) hd ⟨o,es,rest⟩ (by rw [<- rel.length];exact z) fun s' acc kp g1 g2 e1=>hQ _ (ls.map tx) s' (sP hk rel e1) (List.Perm.refl _) ?_) q;have hg:AllBare s'.gens:=by rw [g1];exact I.bare
 exact I.call' (ch:=[]) g2 (Un.kept kp) (I.hok.kept kp) hg fun _ z=>nomatch z
end
end L2
namespace SN
open PySem PyProof.Rows SS
def gT:Value->Int
 | .int x _=>x
 | _=>0
def El (w:World)(e:Int×Value):Prop:=e.1=hashInt (gT e.2)∧∃ t,e.2 = .int (gT e.2) t
def Els (w:World)(es:List (Int×Value))(ms:List Int):Prop:=(∀ e∈es,El w e)∧(es.map fun e=>gT e.2).Perm ms
theorem Els.perm {w:World}{es es':List (Int×Value)}{ms:List Int}(h:Els w es ms)(p:es'.Perm es):Els w es' ms:=⟨fun e he=>h.1 e (p.mem_iff.mp he),(p.map _).trans h.2⟩
theorem Els.of {w:World}{prog:Program}{es:List (Int×Value)}{ms:List Int}(h:Els w es ms):ElemsOf (PySem.intKind prog w) es:=fun e he=>by
 obtain ⟨h1,t,h2⟩:=h.1 e he;refine ⟨⟨gT e.2,?_,h1⟩,?_⟩
 ·rw [h2]
  exact intKind_is prog w _ t
 ·rw [h2]
  rfl
theorem Els.len {w:World}{es:List (Int×Value)}{ms:List Int}(h:Els w es ms):es.length=ms.length:=by
 have:=h.2.length_eq
 rwa [List.length_map] at this
theorem Els.has {w:World}{prog:Program}{es:List (Int×Value)}{ms:List Int}(h:Els w es ms)(k:Int):k∈ms↔∃ e∈es,(PySem.intKind prog w).is k e.2=true:=by
 rw [<- h.2.mem_iff,List.mem_map];constructor
 ·rintro ⟨e,he,rfl⟩
  obtain ⟨_,t,h2⟩:=h.1 e he;refine ⟨e,he,?_⟩
  conv=>lhs;arg 3;rw [h2]
  exact intKind_is prog w _ t
 ·rintro ⟨e,he,hk⟩
  obtain ⟨t,ht⟩:=Value.isInt_shape hk;exact ⟨e,he,by rw [ht];rfl⟩
def Rs (t:SetTable):Prop:=(∀ i j,i<j->j<t.place.size->t.place.getD i 0<t.place.getD j 0)∧t.dummies = #[]
theorem pK {xs:Array Nat}{j:Nat}(hr:∀ i k,i<k->k<xs.size->xs.getD i 0<xs.getD k 0):∀ (fuel lo hi:Nat),lo<=hi->hi<=xs.size->hi-lo<=fuel->(∀ i,i<lo->xs.getD i 0<j)->(∀ i,hi<=i->i<xs.size->j<=xs.getD i 0) ->
  SetTable.below.go xs j fuel lo hi<=xs.size∧(∀ i,i<SetTable.below.go xs j fuel lo hi->xs.getD i 0<j)∧(∀ i,SetTable.below.go xs j fuel lo hi<=i->i<xs.size->j<=xs.getD i 0)
 | 0,lo,hi,h1,h2,h3,h4,h5=>by
  have e:lo=hi:=by omega
  subst e;exact ⟨h2,h4,h5⟩
 | fuel+1,lo,hi,h1,h2,h3,h4,h5=>by
  unfold SetTable.below.go;by_cases hlt:lo<hi
  ·rw [if_pos hlt]
   dsimp only
   have hm:(lo+hi)/2<xs.size:=by omega
   have e:xs.getD ((lo+hi)/2) j=xs.getD ((lo+hi)/2) 0:=by
    rw [Array.getD_eq_getD_getElem?,Array.getD_eq_getD_getElem?,Array.getElem?_eq_getElem hm];rfl
   rw [e];by_cases hc:xs.getD ((lo+hi)/2) 0<j
   ·rw [if_pos hc]
    refine pK hr fuel _ hi (by omega) h2 (by omega) (fun i hi'=>?_) h5;rcases Nat.lt_or_ge i ((lo+hi)/2) with z | z
    ·exact Nat.lt_trans (hr i _ z hm) hc
    ·rw [show i=(lo+hi)/2 by omega];exact hc
   ·rw [if_neg hc]
    refine pK hr fuel lo _ (by omega) (by omega) (by omega) h4 (fun i hi' hs=>?_);rcases Nat.lt_or_ge ((lo+hi)/2) i with z | z
    ·have:=hr _ i z hs
     omega
    ·rw [show i=(lo+hi)/2 by omega];omega
  ·rw [if_neg hlt]
   have e:lo=hi:=by omega
   subst e;exact ⟨h2,h4,h5⟩
theorem xM {xs:Array Nat}(j:Nat)(hr:∀ i k,i<k->k<xs.size->xs.getD i 0<xs.getD k 0):SetTable.below xs j<=xs.size∧(∀ i,i<SetTable.below xs j->xs.getD i 0<j)∧(∀ i,SetTable.below xs j<=i->i<xs.size->j<=xs.getD i 0) :=
 pK hr xs.size 0 xs.size (Nat.zero_le _) (Nat.le_refl _) (by omega) (fun i h=>by omega) fun i h1 h2=>by omega
theorem wH {xs:Array Nat}{j p:Nat}(hr:∀ i k,i<k->k<xs.size->xs.getD i 0<xs.getD k 0)(h1:p<=xs.size)(h2:∀ i,i<p->xs.getD i 0<j)(h3:∀ i,p<=i->i<xs.size->j<=xs.getD i 0):SetTable.below xs j=p:=by
 obtain ⟨g1,g2,g3⟩:=xM j hr;rcases Nat.lt_trichotomy (SetTable.below xs j) p with z | z | z
 ·have:=h2 _ z
  have:=g3 _ (Nat.le_refl _) (by omega)
  omega
 ·exact z
 ·have:=g2 _ z
  have:=h3 _ (Nat.le_refl _) (by omega)
  omega
theorem xS {xs:Array Nat}{i:Nat}(h:i<xs.size):xs[i]?=some (xs.getD i 0):=by
 rw [Array.getD_eq_getD_getElem?,Array.getElem?_eq_getElem h];rfl
theorem Rs.next {t:SetTable}(h:Rs t){i:Nat}(hi:i<=t.place.size):SetTable.below t.place (if i=0 then 0 else t.place.getD (i-1) 0+1)=i:=by
 refine wH h.1 hi (fun k hk=>?_) (fun k hk hs=>?_)
 ·rw [if_neg (by omega)]
  rcases Nat.lt_or_ge k (i-1) with z | z
  ·have:=h.1 k (i-1) z (by omega)
   omega
  ·rw [show k=i-1 by omega];omega
 ·by_cases h0:i=0
  ·rw [if_pos h0];exact Nat.zero_le _
  ·rw [if_neg h0]
   have:=h.1 (i-1) k (by omega) hs
   omega
theorem nM {t:SetTable}{f:Nat->Int}{h:Int}(hd:t.dummies = #[]):∀ (fuel:Nat) (p:SetTable.Probe) (j:Nat) (d:Option Nat),p.dummy=none->SetTable.probe.go t f h fuel p=some (.empty j d)->t.slot j = .empty∧d=none
 | 0,p,j,d,_,e=>by unfold SetTable.probe.go at e;cases e
 | fuel+1,p,j,d,hp,e=>by
  unfold SetTable.probe.go at e;have hnd:t.slot p.j≠.dummy:=by
   unfold SetTable.slot
   dsimp only
   split
   ·intro z;cases z
   ·rw [hd]
    rw [show SetTable.has #[] p.j=false by unfold SetTable.has;simp];intro z;cases z
  have hadv:∀ q:SetTable.Probe,q.dummy=none->(t.advance q).dummy=none:=fun q hq=>by
   unfold SetTable.advance;split
   ·exact hq
   ·exact hq
  split at e
  ·rename_i hs
   injection e with e
   injection e with e1 e2
   subst e1;exact ⟨hs,by rw [<- e2];exact hp⟩
  ·rename_i hs
   exact absurd hs hnd
  ·split at e
   ·cases e
   ·exact nM hd fuel _ j d (hadv p hp) e
theorem Dn {xs:Array Nat}{j:Nat}(hr:∀ i k,i<k->k<xs.size->xs.getD i 0<xs.getD k 0)(hj:∀ i,i<xs.size->xs.getD i 0≠j):∀ i k,i<k->k<(SetTable.insertAt xs (SetTable.below xs j) j).size->(SetTable.insertAt xs (SetTable.below xs j) j).getD i 0<(SetTable.insertAt xs (SetTable.below xs j) j).getD k 0:=by
 obtain ⟨g1,g2,g3⟩:=xM j hr;generalize SetTable.below xs j=p at g1 g2 g3;have hsz:(SetTable.insertAt xs p j).size=xs.size+1:=by
  unfold SetTable.insertAt;simp;omega
 have hat:∀ i,i<xs.size+1->(SetTable.insertAt xs p j).getD i 0=if i<p then xs.getD i 0 else if i=p then j else xs.getD (i-1) 0:=fun i hi=>by
  unfold SetTable.insertAt;rw [Array.getD_eq_getD_getElem?,Array.getD_eq_getD_getElem?,Array.getD_eq_getD_getElem?];by_cases h1:i<p
  ·rw [if_pos h1,Array.getElem?_append_left (by simp;omega),Array.getElem?_push_lt (by simp;omega)]
   simp;rw [Array.getElem?_eq_getElem (by omega)];rfl
  ·rw [if_neg h1]
   by_cases h2:i=p
   ·rw [if_pos h2,Array.getElem?_append_left (by simp;omega)]
    rw [show i=(xs.extract 0 p).size by simp;omega,Array.getElem?_push_size];rfl
   ·rw [if_neg h2,Array.getElem?_append_right (by simp;omega)]
    rw [Array.getElem?_extract];simp;rw [show min p xs.size=p by omega];by_cases h3:i-(p+1)<xs.size-p
    ·rw [if_pos h3,show p+(i-(p+1))=i-1 by omega]
    ·omega
 intro i k hik hk;rw [hsz] at hk;rw [hat i (by omega),hat k hk];by_cases a1:i<p
 ·rw [if_pos a1]
  by_cases b1:k<p
  ·rw [if_pos b1];exact hr i k hik (by omega)
  ·rw [if_neg b1]
   have ha:=g2 i a1;by_cases b2:k=p
   ·rw [if_pos b2];exact ha
   ·rw [if_neg b2]
    have:=g3 (k-1) (by omega) (by omega)
    omega
 ·rw [if_neg a1,if_neg (show ¬ k<p by omega),if_neg (show ¬ k=p by omega)]
  by_cases a2:i=p
  ·rw [if_pos a2]
   have h1:=g3 (k-1) (by omega) (by omega);have h2:=hj (k-1) (by omega);omega
  ·rw [if_neg a2]
   exact hr (i-1) (k-1) (by omega) (by omega)
theorem iY (t:SetTable)(n:Nat):Rs (t.standIn n):=by
 refine ⟨fun i j hij hj=>?_,rfl⟩;have hj:j<n:=by simpa [SetTable.standIn] using hj
 show (Array.range n).getD i 0<(Array.range n).getD j 0;rw [Array.getD_eq_getD_getElem?,Array.getD_eq_getD_getElem?,Array.getElem?_range,Array.getElem?_range];simp [hj,show i<n by omega];exact hij
theorem Dg (t:SetTable)(es:Array (Int×Value))(h:Int)(x:Value)(hr:Rs t):Rs (layNew t es h x).2.1:=by
 unfold layNew;split
 ·rename_i slot wd hf
  show Rs ((t.put slot).1.orStandIn _);unfold SetTable.orStandIn;split
  ·unfold SetTable.freeSlot at hf
   split at hf
   ·rename_i j d hp
    have hp:SetTable.probe.go t (fun _=>h+1) h (10*SetTable.turns t.mask) (t.probeStart h)=some (.empty j d):=hp;obtain ⟨h1,h2⟩:=nM hr.2 _ _ j d rfl hp;subst h2
    injection hf with hf
    injection hf with hf _
    have hf:j=slot:=hf;subst hf;refine ⟨Dn hr.1 fun i hi e=>?_,?_⟩
    ·have hb:SetTable.below t.place j=i:=wH hr.1 (by omega) (fun k hk=>by rw [<- e];exact hr.1 k i hk hi) (fun k hk hs=>by
      rcases Nat.lt_or_ge i k with z | z
      ·have:=hr.1 i k z hs;omega
      ·rw [show k=i by omega,e];exact Nat.le_refl _)
     unfold SetTable.slot at h1
     dsimp only at h1
     rw [hb,xS hi,e] at h1;simp at h1
    ·show (if SetTable.has t.dummies j then _ else t.dummies) = #[]
     rw [hr.2,show SetTable.has #[] j=false by unfold SetTable.has;simp];rfl
   ·cases hf
  ·exact iY _ _
 ·exact iY _ _
theorem Jj {owner:Array (Option Nat)}:∀ n:Nat,(((List.range n).filterMap fun j=>(owner.getD j none).map (j,·)).map (·.1)).Pairwise (· < ·):=fun n=>by
 refine List.pairwise_map.mpr (List.Pairwise.filterMap (R:=fun a b:Nat=>a<b) (S:=fun a b:Nat×Nat=>a.1<b.1) _ (fun a a' haa b hb b' hb'=>?_) List.pairwise_lt_range);obtain ⟨x,_,rfl⟩:=Option.map_eq_some_iff.mp hb;obtain ⟨y,_,rfl⟩:=Option.map_eq_some_iff.mp hb';exact haa
theorem xF (t:SetTable)(es:Array (Int×Value))(n:Nat)(hr:Rs t):(relayAll t es n).2.1.led=t.led∧Rs (relayAll t es n).2.1:=by
 unfold relayAll;split
 ·rename_i t' order hl
  dsimp only
  split
  ·unfold SetTable.relaid at hl
   refine ⟨(oZ hl).1,?_⟩;unfold SetTable.laid at hl
   cases ho:SetTable.layClean (SetTable.sizeAbove n-1) (es.map (·.1)) with
   | none=>rw [ho] at hl;cases hl
   | some owner =>
    rw [ho] at hl
    injection hl with hl
    injection hl with hl _
    subst hl;refine ⟨fun i j hij hj=>?_,rfl⟩;have hp:=Jj (owner:=owner) (SetTable.sizeAbove n-1+1);have hj':j<(((List.range (SetTable.sizeAbove n-1+1)).filterMap fun j=>(owner.getD j none).map (j,·)).map (·.1)).length:=by simpa using hj
    have:=List.pairwise_iff_getElem.mp hp i j (by omega) hj' hij
    show (List.toArray _).getD i 0<(List.toArray _).getD j 0;rw [Array.getD_eq_getD_getElem?,Array.getD_eq_getD_getElem?,List.getElem?_toArray,List.getElem?_toArray,List.getElem?_eq_getElem (by omega),List.getElem?_eq_getElem hj'];exact this
  ·exact ⟨rfl,iY _ _⟩
 ·exact ⟨rfl,iY _ _⟩
def Is (w:World)(h:Heap)(a:Addr)(ms:List Int):Prop :=
 ∃ o es ep t,h.get? a=some o∧o.ExactSet∧o.data = .set es ep t∧Els w es.toList ms∧ms.Nodup∧es.size<scanBound∧t.fits es.size=true∧(byT w=true∨t.led=true)∧Rs t
theorem Is.at {w:World}{h h':Heap}{a:Addr}{ms:List Int}(x:Is w h a ms)(e:∀ o,h.get? a=some o->h'.get? a=some o):Is w h' a ms:=let ⟨o,es,ep,t,ho,r⟩:=x;⟨o,es,ep,t,e o ho,r⟩
theorem Is.there {w:World}{h:Heap}{a:Addr}{ms:List Int}(x:Is w h a ms):∃ o,h.get? a=some o:=let ⟨o,_,_,_,ho,_⟩:=x;⟨o,ho⟩
section
variable {prog:Program}{w:World}{A:Around}{E:Value->Shared->Prop}{s:Shared}
theorem Is.store (prog:Program){a:Addr}{o:Obj}{es es':Array (Int×Value)}{ep:Nat}{t t':SetTable}{h:Heap}{ms:List Int}(ho:h.get? a=some o)(hex:o.ExactSet)(hd:o.data = .set es ep t)(hel:Els w es'.toList ms)(hnd:ms.Nodup)(hb:es'.size<scanBound)(hf:t'.fits es'.size=true)
  (hl:byT w=true∨t'.led=true) (hp:Rs t'):(h.update a (Obj.putSet es' t')).get? a=some { o with data:=.set es' (ep+1) t' }∧Is w (h.update a (Obj.putSet es' t')) a ms:=by
 have hg:=(SetOf_store (knd:=PySem.intKind prog w) (S':=fun k=>decide (k∈ms)) ho hex hd hel.of (fun k=>by rw [decide_eq_true_iff];exact hel.has k) hb hf).1;exact ⟨hg,_,es',ep+1,t',hg,hex,rfl,hel,hnd,hb,hf,hl,hp⟩
theorem uA {a : Addr} {ms : List Int} {k : Int} {tk : Tok} {Q : Bool → Shared → Prop} (hS : Is w s.heap a ms) (hroom : ms.length + 1 < scanBound)
    (h : ∀ h' ms', Heap.SameBut a s.heap h' → Is w h' a ms' → (∀ x, x ∈ ms' ↔ x ∈ ms ∨ x = k) → ms'.length ≤ ms.length + 1 → Q (!decide (k ∈ ms)) { s with heap := h' }) :
    wpAny (model prog w) A (setAddHashed a (.int k tk) (hashInt k)) Q E s := by
  obtain ⟨o, es, ep, t, ho, hex, hd, hel, hnd, hb, hf, hl, hp⟩ := hS;have hn : es.size = ms.length := by rw [← hel.len, Array.length_toList]
  have hkey : (PySem.intKind prog w).is k (.int k tk) = true := intKind_is prog w k tk;unfold setAddHashed setAddHashedIn;refine wpAny_holding (wpAny_bind (wpAny_setState_of ho hd hf ?_))
  dsimp only
  rw [byScan_of (knd := PySem.intKind prog w) (x := .int k tk) rfl hb hel.of];simp only [↓reduceIte];unfold setAddByScan;refine wpAny_bind (wpAny_bind (wpAny_rule (wpAny_bind (wpAny_setScan_of (knd := PySem.intKind prog w) hkey ho hd hf hel.of ?_))))
  cases hr : List.findIdx? (fun e => (PySem.intKind prog w).is k e.2) es.toList with
  | some j =>
    dsimp only
    obtain ⟨hj, hpj, _⟩ := List.findIdx?_eq_some_iff_getElem.mp hr;have hm : k ∈ ms := (hel.has (prog := prog) k).mpr ⟨es.toList[j], List.getElem_mem hj, hpj⟩;refine wpAny_pure (wpAny_pure ?_);have z := h s.heap ms (Heap.SameBut.refl a s.heap) ⟨o, es, ep, t, ho, hex, hd, hel, hnd, hb, hf, hl, hp⟩ (fun x => ⟨.inl, fun q => q.elim id fun e => e ▸ hm⟩) (by omega);rw [decide_eq_true hm] at z;exact z
  | none =>
    dsimp only
    have hm : ¬ k ∈ ms := fun z => by
      obtain ⟨e, he, q⟩ := (hel.has (prog := prog) k).mp z;have := List.findIdx?_eq_none_iff.mp hr e he;rw [q] at this;cases this
    have gw : ∀ (b : Bool) {s₁ : Shared} {Q' : Unit → Shared → Prop}, Q' () s₁ → wpAny (model prog w) A (match b with | true => rule "set.scan.the-table-gave-way" | false => pure ()) Q' E s₁ := fun b s₁ Q' hq => by
      cases b
      · exact wpAny_pure hq
      · exact wpAny_rule hq
    have hperm := layNew_perm t es (hashInt k) (.int k tk);have hfits := layNew_fits t es (hashInt k) (.int k tk);have hled := pR t es (hashInt k) (.int k tk);have hrs := Dg t es (hashInt k) (.int k tk) hp;generalize hL : layNew t es (hashInt k) (.int k tk) = L at hperm hfits hled hrs ⊢;obtain ⟨es1, t1, wasDummy, gave⟩ := L
    dsimp only at hperm hfits hled hrs ⊢
    rw [Array.toList_push] at hperm;have hel1 : Els w es1.toList (ms ++ [k]) := by
      refine Els.perm ⟨fun e he => ?_, ?_⟩ hperm
      · rcases List.mem_append.mp he with z | z
        · exact hel.1 e z
        · have e' : e = (hashInt k, .int k tk) := by simpa using z
          rw [e'];exact ⟨rfl, tk, rfl⟩
      · rw [List.map_append]
        exact hel.2.append_right _
    have hnd1 : (ms ++ [k]).Nodup := List.nodup_append.mpr ⟨hnd, by simp, fun x hx y hy e => hm (by have : y = k := (by simpa using hy); rw [← this, ← e]; exact hx)⟩;have hsz1 : es1.size = ms.length + 1 := by rw [← Array.length_toList, hel1.len, List.length_append, List.length_singleton]
    have hb1 : es1.size < scanBound := by omega
    have fin : ∀ h', Heap.SameBut a s.heap h' → Is w h' a (ms ++ [k]) → Q true { s with heap := h' } := fun h' sb x => by
      have z := h h' (ms ++ [k]) sb x (fun y => by rw [List.mem_append, List.mem_singleton]) (by rw [List.length_append, List.length_singleton]; omega);rw [decide_eq_false hm] at z;exact z
    have tail : ∀ t2 : SetTable, t2.fits es1.size = true → (byT w = true ∨ t2.led = true) → Rs t2 → wpAny (model prog w) A (do
        storeSet a es1 t2
        if (!wasDummy && t2.tooFull) = true then do
            (match (relayAll t2 es1 (SetTable.grown es1.size)).2.2 with | true => rule "set.scan.the-table-gave-way" | false => pure ())
            storeSet a (relayAll t2 es1 (SetTable.grown es1.size)).1 (relayAll t2 es1 (SetTable.grown es1.size)).2.1
            pure (some true)
          else pure (some true)) (fun r s' => wpAny (model prog w) A (match r with | some added => pure added | none => setAddHashedIn a (.int k tk) (hashInt k) 99999) Q E s') E s := fun t2 hf2 hl2 hp2 => by
      refine wpAny_bind (wpAny_storeSet_of ho hd ?_ (fits_of_scanBound hb1));obtain ⟨ho1, hS1⟩ := Is.store prog ho hex hd hel1 hnd1 hb1 hf2 hl2 hp2;have sb1 := Heap.SameBut.update s.heap a (Obj.putSet es1 t2);split
      · have q1 := relayAll_perm t2 es1 (SetTable.grown es1.size)
        have q2 := relayAll_fits t2 es1 (SetTable.grown es1.size);have q3 := xF t2 es1 (SetTable.grown es1.size) hp2;generalize relayAll t2 es1 (SetTable.grown es1.size) = Rl at q1 q2 q3 ⊢;obtain ⟨es2, t3, g2⟩ := Rl
        dsimp only at q1 q2 q3 ⊢
        have hel2 := hel1.perm q1;have hsz : es2.size = es1.size := by rw [← Array.length_toList, q1.length_eq, Array.length_toList]
        have hb2 : es2.size < scanBound := by omega
        refine wpAny_bind (gw _ (wpAny_bind (wpAny_storeSet_of ho1 rfl ?_ (fits_of_scanBound hb2))));obtain ⟨_, hS2⟩ := Is.store prog ho1 hex rfl hel2 hnd1 hb2 q2 (hl2.imp id fun z => q3.1.trans z) q3.2;exact wpAny_pure (wpAny_pure (fin _ (sb1.trans (Heap.SameBut.update _ a _)) hS2))
      · exact wpAny_pure (wpAny_pure (fin _ sb1 hS1))
    refine wpAny_bind (gw _ ?_);have hl1 : byT w = true ∨ t1.led = true := hl.imp id fun z => hled.trans z
    split
    · refine wpAny_bind (wpAny_pure ?_)
      simp only [↓reduceIte];exact tail t1 hfits hl1 hrs
    · refine wpAny_bind (wpAny_pure ?_)
      simp only [↓reduceIte];exact tail t1 hfits hl1 hrs
theorem Is.fresh (h:Heap):Is w (h.push (bZ w)) h.objs.size []:=by
 refine ⟨bZ w,#[],0,.fresh 0 0 (!byT w),Heap.get?_push_size _ rfl,⟨rfl,rfl,rfl⟩,rfl,⟨fun e he=>by simp at he,by simp⟩,List.nodup_nil,by decide,rfl,?_,⟨fun i j _ h=>absurd h (by show ¬ j<0;omega),rfl⟩⟩;cases byT w
 ·exact .inr rfl
 ·exact .inl rfl
theorem Is.ty {a:Addr}{ms:List Int}(x:Is w s.heap a ms):s.TypeIs (.ref a) "set" := by
 obtain ⟨o,_,_,_,ho,hex,_⟩:=x;exact ⟨o,ho,hex.1⟩
end
theorem wM {w:World}:∀ L:List (Int×Value),(∀ e∈L,El w e)->IntsAre (L.map (·.2)) (L.map fun e=>gT e.2)
 | [],_=>.nil
 | e::L,h=>by
  obtain ⟨_,tk,q⟩:=h e (List.mem_cons_self ..);rw [List.map_cons,List.map_cons];have r:=wM L fun x hx=>h x (List.mem_cons_of_mem _ hx)
  have z:IntsAre (Value.int (gT e.2) tk::L.map (·.2)) (gT e.2::L.map fun e=>gT e.2):=.cons _ _ r;rw [<- q] at z;exact z
section
variable {prog:Program}{w:World}{A:Around}{E:Value->Shared->Prop}{s:Shared}
theorem vE {a:Addr}{ms:List Int}{Q:Value->Shared->Prop}(hS:Is w s.heap a ms)
  (h:∀ (h':Heap) (d:Drawn) (I:Addr) (fp:List Addr) (xs:List Value) (ss:List Int) (St:Nat->Heap->Prop),(∀ A':Around,A'.handled=none->Walks prog w A' I fp [I] xs.length (fun i v=>xs[i]?=some v) St)->St 0 h' ->
   (∀ b o,s.heap.get? b=some o->h'.get? b=some o)->s.heap.objs.size<=I->(∀ b∈fp,b=a∨s.heap.objs.size<=b)->IntsAre xs ss->ss.Perm ms->Q (.ref I) { s with heap:=h',drawn:=d }) :
  wpAny (model prog w) A (pyIter (.ref a)) Q E s:=by
 obtain ⟨o,es,ep,t,ho,hex,hd,hel,hnd,hb,hf,hl,hp⟩:=id hS;have hlt:=Heap.lt_size ho;have hps:t.place.size=es.size:=by
  simp only [SetTable.fits,Bool.and_eq_true,beq_iff_eq] at hf;exact hf.1
 refine wpAny_pyIter_slot hS.ty F.slot_set_iter (wpAny_call_entry F.slot_set_iter hS.ty qX ?_ (F.args_set_iter_1 _));unfold Builtin.«frozenset.__iter__»;refine wpAny_bind (m:=Builtin.Frozenset.slot0 "__iter__" ⟨[.ref a],[]⟩) (wpAny_of_eq (a:=a) rfl ?_)
 unfold Builtin.Frozenset.sizeOf;refine wpAny_bind (wpAny_bind (wpAny_setEntries_of ho hd hf (wpAny_pure ?_)));have hlist:∀ L:List (Int×Value),L.Perm es.toList->IntsAre (L.map (·.2)) (L.map fun e=>gT e.2)∧(L.map fun e=>gT e.2).Perm ms:=fun L hp=>⟨wM L (hel.perm hp).1,(hel.perm hp).2⟩
 have fin:∀ (L:List (Int×Value)) (slots:Nat->Nat),slots 0=0->L.Perm es.toList->(∀ (i:Nat) (s:Shared) (A':Around) (E':Value->Shared->Prop) (Q':Option (Value×Nat)->Shared->Prop),s.heap.get? a=some o->i<=L.length->Q' ((L[i]?).map fun e=>(e.2,slots (i+1))) s->wpAny (model prog w) A' (setNext a (slots i) i ep) Q' E' s) ->
   wpAny (model prog w) A.in1 (setEpoch a >>= fun e=>newFields "set_iterator" [rawInt 0,rawInt 0,.ref a,rawInt (es.size:Int),rawInt (e:Int)] >>= ret) (fun fin s'=>∃ v,fin = .done (.ret v)∧∃ (T:String) (r:Value),s'.TypeIs v T∧typeLookup (.type T) "__next__" = pure (some r)∧Q v s') E s:=fun L slots h0 hL hN=>by
  refine wpAny_bind (wpAny_setEpoch_of ho hd hf ?_);have hI:It (s.heap.push { cls:=.type "set_iterator",data:=.fields #[rawInt 0,rawInt 0,.ref a,rawInt (es.size:Int),rawInt (ep:Int)] }) s.heap.objs.size a (rawInt (slots 0:Int)) 0 es.size ep:=⟨_,Heap.get?_push_size _ rfl,rfl,by rw [h0];rfl⟩
  obtain ⟨q1,q2⟩:=hlist L hL;refine wpAny_bind (wpAny_newObj_type (wpAny_pure ⟨_,rfl, "set_iterator",_,⟨_,Heap.get?_push_size _ rfl,rfl⟩,cS.lookup,?_⟩))
  have z:=h (s.heap.push { cls:=.type "set_iterator",data:=.fields #[rawInt 0,rawInt 0,.ref a,rawInt (es.size:Int),rawInt (ep:Int)] }) s.drawn s.heap.objs.size [s.heap.objs.size,a] (L.map (·.2)) _ (fun i h=>h.get? a=some o∧It h s.heap.objs.size a (rawInt (slots i:Int)) i es.size ep) (fun A' hA'=>by
     rw [List.length_map];exact vW hA' (Nat.ne_of_lt hlt) hd hf hN) ⟨Heap.get?_push_of_some _ ho,hI⟩ (fun b o e=>Heap.get?_push_of_some _ e) (Nat.le_refl _) (fun b hb=>by
     rcases List.mem_cons.mp hb with rfl | hb
     · exact .inr (Nat.le_refl _)
     · exact .inl (List.mem_singleton.mp hb)) q1 q2
  exact z
 have hdrw:∀ (Q':Bool->Shared->Prop),Q' (!byT w&&(!t.plain&&decide (es.size>1))) s->wpAny (model prog w) A.in1 (setDrawn a) Q' E s:=fun Q' q=>by
  unfold setDrawn;refine wpAny_bind (wpAny_setState_of ho hd hf ?_)
  dsimp only
  exact wpAny_bind (dL (wpAny_pure q))
 refine wpAny_bind (hdrw _ ?_);by_cases hby:byT w=true
 ·rw [hby]
  simp only [Bool.not_true,Bool.false_and,Bool.false_eq_true,↓reduceIte];refine wpAny_bind (wpAny_pure ?_);refine fin (pickOrder (w.params.setOrder a ep) es).toList (fun _=>0) rfl (mH _ _) fun i s' A' E' Q' ho' hi q=>?_
  unfold setNext;refine wpAny_bind (wpAny_setState_of ho' hd hf ?_)
  dsimp only
  refine wpAny_bind (dL ?_);rw [hby,if_pos rfl,bne_self_eq_false,if_neg Bool.false_ne_true];unfold setWalk;refine wpAny_bind (wpAny_bind (wpAny_setState_of ho' hd hf ?_))
  dsimp only
  refine wpAny_bind (dL ?_);rw [hby,if_pos rfl];refine wpAny_bind (wpAny_askSetting (wpAny_pure (wpAny_pure ?_)));rw [Array.getElem?_toList] at q;exact q
 ·have hbf:byT w=false:=Bool.eq_false_iff.mpr hby
  have hld:t.led=true:=hl.resolve_left hby;by_cases h1:(!t.plain&&decide (es.size>1))=false
  ·have hnot:(!byT w&&(!t.plain&&decide (es.size>1)))=false:=by rw [h1];simp
   rw [hnot];simp only [Bool.false_eq_true,↓reduceIte];refine wpAny_bind (wpAny_pure ?_);have hN:∀ (slot i:Nat) (s':Shared) (A':Around) (E':Value->Shared->Prop) (Q':Option (Value×Nat)->Shared->Prop),s'.heap.get? a=some o ->
       Q' (match es[SetTable.below t.place slot]?,t.place[SetTable.below t.place slot]? with | some (_,x),some j=>some (x,j+1) | _,_=>none) s'->wpAny (model prog w) A' (setNext a slot i ep) Q' E' s':=fun slot i s' A' E' Q' ho' q=>by
     unfold setNext;refine wpAny_bind (wpAny_setState_of ho' hd hf ?_)
     dsimp only
     refine wpAny_bind (dL ?_);rw [hbf,if_neg Bool.false_ne_true];show wpAny _ _ (if (!t.plain&&decide (es.size>1))=true then _ else _) _ _ s';rw [h1,if_neg Bool.false_ne_true];refine wpAny_bind (m:=if (!t.led && !es.isEmpty)=true then unsupported "set:maker-not-led" else pure ()) ?_
     rw [hld];simp only [Bool.not_true,Bool.false_and,Bool.false_eq_true,↓reduceIte];exact wpAny_pure (wpAny_pure q)
   refine fin es.toList (fun i=>if i=0 then 0 else t.place.getD (i-1) 0+1) rfl (List.Perm.refl _) fun i s' A' E' Q' ho' hi q=>hN _ i s' A' E' Q' ho' ?_
   rw [Array.length_toList] at hi;rw [hp.next (by omega)];rw [Array.getElem?_toList] at q;rcases Nat.lt_or_ge i es.size with z | z
   · rw [Array.getElem?_eq_getElem z] at q ⊢
     rw [xS (show i<t.place.size by omega)];exact q
   · rw [Array.getElem?_eq_none z] at q ⊢
     exact q
  ·have hyes:(!byT w&&(!t.plain&&decide (es.size>1)))=true:=by rw [hbf,(Bool.not_eq_false _).mp h1];rfl
   rw [hyes,if_pos rfl];have hr:(List.range es.size).length=es.size:=List.length_range;refine wpAny_bind (m:=drawOrder es.size (List.range es.size)) ?_;have dr:=Aw (prog:=prog) (w:=w) (A:=A.in1) (E:=E) (List.range es.size) s;rw [hr] at dr;refine dr _ fun ps d hpp=>?_
   have hpl:ps.length=es.size:=by rw [hpp.length_eq,hr]
   have hs:sizeLine=16777216:=sizeLine_eq;have sb:scanBound=4096:=rfl;refine wpAny_bind (wpAny_newTuple ?_ (by rw [List.length_map];omega));generalize hot:({ cls:=.type "tuple",data:=.seq (ps.map fun j:Nat=>rawInt (j:Int)).toArray }:Obj)=ot
   have hg:(s.heap.push ot).get? s.heap.objs.size=some ot:=Heap.get?_push_size _ (by rw [<- hot];rfl);have ho2:(s.heap.push ot).get? a=some o:=Heap.get?_push_of_some _ ho;refine wpAny_bind (wpAny_setEpoch_of (s:={ s with heap:=s.heap.push ot,drawn:=d }) ho2 hd hf ?_);refine wpAny_bind (wpAny_newObj_type (wpAny_pure ⟨_,rfl, "set_iterator",_,⟨_,Heap.get?_push_size _ rfl,rfl⟩,cS.lookup,?_⟩))
   have hsz:(s.heap.push ot).objs.size=s.heap.objs.size+1:=Heap.size_push _ _;have hfm:(ps.map fun p=>es.getD p (0,Value.none)).Perm es.toList:=by
     have e1:(List.range es.size).map (fun p=>es.getD p (0,Value.none))=es.toList:=by
       apply List.ext_getElem
       · simp
       · intro i g1 g2
         have g3:i<es.size:=by simpa using g1
         simp [Array.getD_eq_getD_getElem?,g3]
     exact (hpp.map _).trans (by rw [e1])
   obtain ⟨q1,q2⟩:=hlist _ hfm;rw [List.map_map,List.map_map] at q1;rw [List.map_map] at q2;have hps':∀ p∈ps,p<es.size:=fun p hp=>List.mem_range.mp (hpp.mem_iff.mp hp)
   have hgo:∀ (o2:Obj),o2 = { cls:=.type "set_iterator",data:=.fields #[.ref s.heap.objs.size,rawInt 0,.ref a,rawInt (es.size:Int),rawInt (ep:Int)] }->Q (.ref (s.heap.objs.size+1)) { s with heap:=(s.heap.push ot).push o2,drawn:=d }:=fun o2 ho2'=>by
    refine h ((s.heap.push ot).push o2) d (s.heap.objs.size+1) [s.heap.objs.size+1,a,s.heap.objs.size] (ps.map fun p=>(es.getD p (0,Value.none)).2) _ (fun i h=>h.get? a=some o∧h.get? s.heap.objs.size=some ot∧It h (s.heap.objs.size+1) a (.ref s.heap.objs.size) i es.size ep) (fun A' hA'=>by
        rw [List.length_map];exact wZ (ot:=ot) (nt:=0) hA' (Nat.ne_of_lt (Nat.lt_succ_of_lt hlt)) (Nat.ne_of_lt (Nat.lt_succ_self _)) hd hf (by rw [<- hot]) hps') ⟨Heap.get?_push_of_some _ ho2,Heap.get?_push_of_some _ hg,?_⟩ (fun b o e=>Heap.get?_push_of_some _ (Heap.get?_push_of_some _ e)) (Nat.le_succ _) (fun b hb=>?_) q1 q2
    · rw [<- hsz]
      exact ⟨o2,Heap.get?_push_size _ (by rw [ho2'];rfl),by rw [ho2'],by rw [ho2'];rfl⟩
    · rcases List.mem_cons.mp hb with rfl | hb
      · exact .inr (Nat.le_succ _)
      · rcases List.mem_cons.mp hb with rfl | hb
        · exact .inl rfl
        · exact .inr (Nat.le_of_eq (List.mem_singleton.mp hb).symm)
   have z:=hgo _ rfl;rw [<- hsz] at z;exact z
theorem tS {a:Addr}{ms:List Int}{Q:Bool->Shared->Prop}(hS:Is w s.heap a ms)(h:Q false s):wpAny (model prog w) A (Builtin.List.listLengthHint (.ref a)) Q E s:=by
 unfold Builtin.List.listLengthHint;refine wpAny_bind (wpAny_specialOf hS.ty F.slot_set_len.lookup ?_);generalize hid:("set.__len__" : String)=id0
 wp_delta
 rw [show splitId id0=some ("set", "__len__") from by subst hid;decide +kernel]
 subst hid;refine wpAny_bind (wpAny_isInstance (T := "set") (b:=true) hS.ty sub_set_self ?_)
 refine wpAny_ite_split (fun hab=>absurd hab (by decide)) (fun _=>?_);refine wpAny_ite_split (fun _=>?_) (fun hab=>absurd (by decide +kernel) hab);refine wpAny_bind (wpAny_typeOf hS.ty ?_);exact wpAny_pure h
theorem nG {a:Addr}{ms:List Int}{R:Result->Shared->Prop}(hh:A.handled=none)(hS:Is w s.heap a ms)(hz:ms.length<=sizeLine)(S:Addr)(res:Value)(h1:S≠a)(hSl:s.heap.get? S=some { cls:=.type "list",data:=.seq #[] })
  (hR:∀ s' acc' c' ss,(∀ b o,b≠S->s.heap.get? b=some o->s'.heap.get? b=some o)->s'.gens=s.gens->s'.os=s.os->s'.heap.get? S=some { cls:=.type "list",dict:=none,data:=.seq acc' c',slots:=#[] }->IntsAre acc'.toList ss->ss.Perm ms->R (.ok (.ret res)) s') :
  wpAny (model prog w) A.in1 (Builtin.List.listExtendWith (.ref S) (.ref a) res)
   (fun fin s'=>match fin with | .done f=>R (.ok f) s' | .again c'=>c'.quiet=true∧codeAny (model prog w) A c' R s') (fun e s'=>R (.error e) s') s:=by
 unfold Builtin.List.listExtendWith;refine wpAny_bind (wpAny_typeOf hS.ty ?_);have g1:Builtin.List.listSameRef (.ref S) (.ref a)=false:=by simp [Builtin.List.listSameRef,h1]
 have g2:(Value.type "set" == Value.type "list")=false:=by decide
 have g3:(Value.type "set" == Value.type "tuple")=false:=by decide
 simp only [g1,g2,g3,Bool.or_false,Bool.false_eq_true,if_false];refine wpAny_bind (vE (A:=A.in1) hS fun h2 d I fp xs ss St W st0 kp hIs hfp hss hpm=>?_);have hlt:=Heap.lt_size hSl;have hSI:S≠I:=Nat.ne_of_lt (Nat.lt_of_lt_of_le hlt hIs);have hSf:S∉fp:=fun z=>by
  rcases hfp S z with e | e
  ·exact h1 e
  ·exact absurd hlt (Nat.not_lt.mpr e)
 have hS2:Is w h2 a ms:=hS.at fun o e=>kp a o e
 refine wpAny_bind (wpAny_holding (tS (s:={ s with heap:=h2,drawn:=d }) hS2 ?_));have WS:=(W A.in1 hh).toS;have hxl:xs.length=ms.length:=by rw [hss.length,hpm.length_eq]
 have last:∀ (h0:Heap) (c0:Nat),(∀ b o,b≠S->h2.get? b=some o->h0.get? b=some o)->h0.get? S=some { cls:=.type "list",data:=.seq #[] c0 } ->
   wpAny (model prog w) A.in1 (again (.builtin "list.extend.loop" ⟨[.ref S,.ref I,res],[]⟩))
    (fun fin s'=>match fin with | .done f=>R (.ok f) s' | .again c'=>c'.quiet=true∧codeAny (model prog w) A c' R s') (fun e s'=>R (.error e) s') { s with heap:=h0,drawn:=d }:=fun h0 c0 hk0 hS0=>by
  refine wpAny_pure ⟨plainId_quiet F.plain_extend_loop _,codeAny_extend_loopS WS (by omega) S hSf res xs.length 0 _ #[] c0 rfl (Nat.zero_le _) ?_ hS0 (ItemsOf.nil _) fun s' acc' c' hm hS' hacc=>?_⟩
  ·exact (W A.in1 hh).frame 0 h2 h0 st0 fun b hb o e=>hk0 b o (fun z=>hSf (z▸hb)) e
  ·refine hR s' acc' c' ss (fun b o hb e=>?_) hm.gens hm.os hS' (by rw [xA hacc];exact hss) hpm
   by_cases hbI:b=I
   ·subst hbI
    exact absurd (Heap.lt_size e) (Nat.not_lt.mpr hIs)
   ·exact hm.heap b o (by simp [hb,hbI]) (hk0 b o hb (kp b o e))
 refine wpAny_ite_split (fun _=>?_) (fun hab=>absurd (by decide +kernel) hab);refine wpAny_bind (wpAny_rule ?_);have hSl2:h2.get? S=some { cls:=.type "list",data:=.seq #[] }:=kp S _ hSl
 refine wpAny_bind (m:=((do updateSeq S (fun z=>z.push .none);updateSeq S (fun z=>z.pop)):Sem Unit)) (wpAny_bind (wpAny_updateSeq (s:={ s with heap:=h2,drawn:=d }) hSl2 rfl ?_));have k1:=Heap.get?_update_self (Obj.mapSeq (fun z=>z.push .none)) hSl2 rfl;refine wpAny_updateSeq k1 rfl ?_;have k2:=Heap.get?_update_self (Obj.mapSeq (fun z=>z.pop)) k1 rfl;exact last _ _ (fun b o hb e=>(Heap.get?_update_other _ _ (Ne.symm hb)).trans ((Heap.get?_update_other _ _ (Ne.symm hb)).trans e)) k2
theorem lD {a:Addr}{ms:List Int}{Q:List Value->Shared->Prop}(hh:A.handled=none)(hS:Is w s.heap a ms)(hz:ms.length<=sizeLine)
  (hQ:∀ s' vs ss,(∀ b o,s.heap.get? b=some o->s'.heap.get? b=some o)->s'.gens=s.gens->s'.os=s.os->IntsAre vs ss->ss.Perm ms->Q vs s'):wpAny (model prog w) A (collect (.ref a)) Q E s:=by
 have hlt:=Heap.lt_size hS.there.choose_spec;unfold collect;refine wpAny_bind (wpAny_runValue (codeAny_builtin F.entry_proto_collect ?_));rw [Around.under_plainId F.plain_proto_collect];refine wpAny_bind (m:=newList []) (wpAny_newObj_type (wpAny_pure ⟨plainId_quiet F.plain_list_iadd _,codeAny_builtin F.entry_list_iadd ?_⟩));rw [Around.under_plainId F.plain_list_iadd];have hSl:(s.heap.push { cls:=.type "list",data:=.seq #[] }).get? s.heap.objs.size=some { cls:=.type "list",data:=.seq #[] }:=Heap.get?_push_size _ rfl
 have go:∀ R:Result->Shared->Prop,(∀ s' acc' c' ss,(∀ b o,s.heap.get? b=some o->s'.heap.get? b=some o)->s'.gens=s.gens->s'.os=s.os->s'.heap.get? s.heap.objs.size=some { cls:=.type "list",dict:=none,data:=.seq acc' c',slots:=#[] }->IntsAre acc'.toList ss->ss.Perm ms->R (.ok (.ret (.ref s.heap.objs.size))) s') ->
   wpAny (model prog w) A.in1 (Builtin.List.listExtendWith (.ref s.heap.objs.size) (.ref a) (.ref s.heap.objs.size))
    (fun fin s'=>match fin with | .done f=>R (.ok f) s' | .again c'=>c'.quiet=true∧codeAny (model prog w) A c' R s') (fun e s'=>R (.error e) s') { s with heap:=s.heap.push { cls:=.type "list",data:=.seq #[] } }:=fun R hR =>
  nG (A:=A) (s:={ s with heap:=s.heap.push { cls:=.type "list",data:=.seq #[] } }) hh (hS.at fun o e=>Heap.get?_push_of_some _ e) hz s.heap.objs.size (.ref s.heap.objs.size) (Nat.ne_of_gt hlt) hSl
   fun s' acc' c' ss kp g1 g2 e1 e2 e3=>hR s' acc' c' ss (fun b o e=>kp b o (Nat.ne_of_lt (Heap.lt_size e)) (Heap.get?_push_of_some _ e)) g1 g2 e1 e2 e3
 refine go (fun r s'=>match r with
  | .ok (.ret v)=>wpAny (model prog w) A (match v with
   | .ref a=>do
    match (<- load a).data with
    | .seq xs _=>pure xs.toList
    | _=>unsupported "internal:collect"
   | _=>unsupported "internal:collect") Q E s'
  | .ok _=>False
  | .error e=>E e s') fun s' acc' c' ss kp g1 g2 hS' e2 e3=>?_
 refine wpAny_bind (m:=load s.heap.objs.size) (wpAny_load hS' (wpAny_pure ?_));exact hQ s' acc'.toList ss kp g1 g2 e2 e3
end
end SN
namespace L2
open PySem PySem.Spec PyProof.Rows
namespace SEN
def Of (w:World)(h:Heap)(D:Addr)(ls:List Int)(i:Nat):Prop:=∃ ms,SN.Is w h D ms∧(∀ x,x∈ms↔x∈ls.take i)∧ms.length<=i
theorem Of.at {w:World}{h h':Heap}{D:Addr}{ls:List Int}{i:Nat}(x:Of w h D ls i)(k:∀ o,h.get? D=some o->h'.get? D=some o):Of w h' D ls i:=let ⟨ms,a,b⟩:=x;⟨ms,a.at k,b⟩
section
variable {prog:Program}{w:World}{A:Around}{R:Result->Shared->Prop}{J:Addr}{fp wr:List Addr}{G:Array GenState->Array GenState->Prop}{n:Nat}{P:Nat->Value->Prop}{St:Nat->Shared->Prop}
theorem Hd (W:WalksS prog w A.in1 J fp wr G n P St){D:Addr}(hD:D∉fp)(ls:List Int)(hv:∀ i v,P i v->∃ t,v=Value.int (ls.getD i 0) t)(hn:n+1<scanBound)(hnl:n<=ls.length) :
  ∀ (k i:Nat) (s:Shared),n-i=k->i<=n->St i s->Of w s.heap D ls i ->
   (∀ s',Moved (D::wr) G s s'->Of w s'.heap D ls n->R (.ok (.ret .none)) s')->codeAny (model prog w) A (.builtin "set.update.loop" ⟨[.ref D,.ref J],[]⟩) R s:=by
 have hDw:D∉wr:=fun z=>hD (W.sub _ z)
 have up:∀ b∈wr,b∈D::wr:=fun b hb=>.tail _ hb
 intro k
 induction k with
 | zero =>
  intro i s hk hi st hs hR;obtain rfl:i=n:=by omega
  refine codeAny_builtin PyProof.Rows.F.entry_set_update_loop ?_;rw [Around.under_plainId PyProof.Rows.F.plain_set_update_loop];refine wpAny_bind (m:=pyNext (.ref J)) (W.done s _ _ st fun s2 mv=>?_);exact (show wpAny _ A.in1 (ret Value.none) _ _ s2 from wpAny_pure (hR s2 (mv.mono up) (hs.at fun o e=>mv.heap D o hDw e)))
 | succ k ih =>
  intro i s hk hi st hs hR;have hlt:i<n:=by omega
  refine codeAny_builtin PyProof.Rows.F.entry_set_update_loop ?_;rw [Around.under_plainId PyProof.Rows.F.plain_set_update_loop];refine wpAny_bind (m:=pyNext (.ref J)) (W.item i s _ _ hlt st fun v s2 pv st2 mv=>?_);obtain ⟨t,rfl⟩:=hv i v pv;have hs2:=hs.at fun o e=>mv.heap D o hDw e
  refine wpAny_bind (m:=holding [Value.int (ls.getD i 0) t] (setAdd D (.int (ls.getD i 0) t))) (wpAny_holding ?_);unfold setAdd;refine wpAny_holding (wpAny_bind ((PySem.intKind prog w).pyHash (k:=ls.getD i 0) (intKind_is _ _ _ _) ?_));obtain ⟨ms,hi1,hi2,hi3⟩:=hs2;refine SN.uA (s:={ s2 with toks:=s2.toks+1 }) hi1 (by omega) fun h3 ms3 sb i3 m3 l3=>?_
  have x4:Of w h3 D ls (i+1):=by
   refine ⟨ms3,i3,fun x=>?_,by omega⟩;have e:ls.take (i+1)=ls.take i++[ls.getD i 0]:=by
    rw [List.take_add_one,List.getD_eq_getElem?_getD,List.getElem?_eq_getElem (by omega)];rfl
   rw [m3,hi2,e,List.mem_append,List.mem_singleton]
  refine wpAny_pure ⟨plainId_quiet PyProof.Rows.F.plain_set_update_loop _,ih (i+1) _ (by omega) hlt (W.frame _ s2 _ _ st2 (Nat.le_succ _) fun b hb o e=>(sb.2 b fun z=>hD (z▸hb)).trans e) x4 fun s5 m5 x5=>?_⟩;refine hR s5 (Moved.trans W.gtrans ((mv.mono up).then_heap (Nat.le_succ _) fun b o hb e=>(sb.2 b fun z=>hb (z▸.head _)).trans e) m5) x5
variable {E:Value->Shared->Prop}{s:Shared}
theorem pZ {l:Addr}{its:Array Value}{ls:List Int}{Q:Value->Shared->Prop}(hh:A.handled=none)(hl:s.heap.IsList l its)(hv:∀ i v,its[i]?=some v->∃ t,v=Value.int (ls.getD i 0) t)(hn:its.size+1<scanBound)(hnl:its.size<=ls.length)
  (h:∀ (h':Heap) (tk:Nat),Of w h' s.heap.objs.size ls its.size->(∀ b o,s.heap.get? b=some o->h'.get? b=some o)->Q (.ref s.heap.objs.size) { s with heap:=h',toks:=tk }) :
  wpAny (model prog w) A (call (.type "set") [.ref l]) Q E s:=by
 obtain ⟨mc,mt,f0⟩:=F.called_set.mro;have f1:=F.called_set.made;have f2:=F.called_set.sub;have f3:=F.called_set.notType;have f4:=F.called_set.canCreate;have f5:=F.typeCall_set_1 (.ref l);refine wpAny_call (codeAny_of_tree (show wpAny _ _ (callAny (.type "set") _) _ _ _ from wpAny_pure ⟨Code.quiet_builtin _ (by decide +kernel),codeAny_builtin F.entry_type_call ?_⟩))
 rw [Around.under_plain (weight_type_call_type "set" [.ref l] []) rfl]
 repeat (any_goals (first | wp_step | assumption))
 refine codeAny_mono (SS.sY (.ref l) (E:=E) (Q₁:=fun ob s1=>ob = .ref s.heap.objs.size∧s1 = { s with heap:=s.heap.push (SS.bZ w) }) ⟨rfl,rfl⟩) fun r s1 hr=>?_
 cases r with
 | error e=>exact hr
 | ok fl =>
  cases fl with
  | ret ob =>
   obtain ⟨rfl,rfl⟩:=hr;generalize hob:SS.bZ w=ob;have hD:(s.heap.push ob).get? s.heap.objs.size=some ob:=Heap.get?_push_size _ (by rw [<- hob];rfl);have hT:Shared.TypeIs { s with heap:=s.heap.push ob } (.ref s.heap.objs.size) "set" := ⟨_,hD,by rw [<- hob];rfl⟩
   have f6:=F.called_set.init.lookup;have f7:=F.called_set.init.bind (.ref s.heap.objs.size)
   repeat (any_goals (first | wp_step | assumption))
   refine codeAny_mono (codeAny_call_builtin (R:=wants (fun r s2=>r = .none∧∃ h' tk,s2 = { s with heap:=h',toks:=tk }∧Of w h' s.heap.objs.size ls its.size∧∀ b o,s.heap.get? b=some o->h'.get? b=some o) E)
    F.called_set.init.plain F.entry_set_init (check_set_init_1 hT ?_)) fun r2 s2 hr2=>?_
   ·obtain ⟨⟨oc,od,odt,osl⟩,hol,hcl,nl,hdl⟩:=id hl
    simp only at hcl hdl;subst hcl hdl;have hol':(s.heap.push ob).get? l=some { cls:=.type "list",dict:=od,data:=.seq its nl,slots:=osl }:=Heap.get?_push_of_some _ hol
    have f8:=F.sub_list_set;have f9:=F.sub_list_frozenset;have f10:(Value.type "list" == Value.type "dict")=false:=by decide
    have hl1:(s.heap.push ob).IsList l its:=⟨_,hol',rfl,nl,rfl⟩;subst hob;unfold Builtin.«set.__init__» noKeywords Builtin.Frozenset.updateFrom;generalize hPI:pyIter=PI
    wp_walk
    subst hPI;refine wpAny_pyIter_list hl1 ?_;refine wpAny_bind (wpAny_runValue ?_);have hlt:l<s.heap.objs.size:=Heap.lt_size hol;have hh3:A.in1.in1.in1.handled=none:=by simp [hh]
    have hsz:(s.heap.push (SS.bZ w)).objs.size=s.heap.objs.size+1:=Heap.size_push _ _;have hne:l≠(s.heap.push (SS.bZ w)).objs.size:=by rw [hsz];exact Nat.ne_of_lt (Nat.lt_succ_of_lt hlt)
    have hfp:s.heap.objs.size∉[(s.heap.push (SS.bZ w)).objs.size,l]:=by
     rw [hsz];intro z;rcases List.mem_cons.mp z with e | e
     ·exact Nat.ne_of_lt (Nat.lt_succ_self _) e
     ·exact Nat.ne_of_gt hlt (List.mem_singleton.mp e)
    refine Hd ((Walks.list hh3 _ l hne its).toS) (D:=s.heap.objs.size) hfp ls hv hn hnl (its.size-0) 0 _ (by omega) (Nat.zero_le _) ⟨⟨_,Heap.get?_push_size _ rfl,rfl,rfl⟩,hl1.push _⟩ ?_ fun s3 mv x3=>?_
    ·have hg:((s.heap.push (SS.bZ w)).push { cls:=.type "list_iterator",data:=.fields #[.ref l,.int 0 0] }).get? s.heap.objs.size=some (SS.bZ w):=Heap.get?_push_of_some _ hD
     exact ⟨[],(SN.Is.fresh s.heap).at fun o e=>Heap.get?_push_of_some _ e,fun x=>by simp,Nat.zero_le _⟩
    ·obtain ⟨h3,g3,d3,tk3,os3⟩:=s3
     obtain rfl:g3=s.gens:=mv.gens;obtain rfl:d3=s.drawn:=mv.drawn;obtain rfl:os3=s.os:=mv.os;refine wpAny_pure (show wpAny _ _ (ret Value.none) _ _ _ from wpAny_pure ⟨rfl,h3,tk3,rfl,x3,fun c o e=>?_⟩);have hc:=Heap.lt_size e;exact mv.heap c o (show c∉[s.heap.objs.size,(s.heap.push (SS.bZ w)).objs.size] by
      rw [hsz];intro z;rcases List.mem_cons.mp z with e | e
      ·exact Nat.ne_of_lt hc e
      ·exact Nat.ne_of_lt (Nat.lt_succ_of_lt hc) (List.mem_singleton.mp e)) (Heap.get?_push_of_some _ (Heap.get?_push_of_some _ e))
   ·cases r2 with
    | error e=>exact hr2
    | ok fl2 =>
     cases fl2 with
     | ret r =>
      obtain ⟨rfl,h3,tk,rfl,x3,k3⟩:=hr2
      repeat (any_goals (first | wp_step | assumption))
      exact h _ _ x3 k3
     | _=>exact hr2.elim
  | _=>exact hr.elim
end
end SEN
def Cz (w:World)(D:Addr)(ms:List Int):HO:=.ext fun h=>SN.Is w h D ms
theorem Dm {w:World}{h:Heap}{D:Addr}{ms:List Int}(x:SN.Is w h D ms):ms.Nodup:=let ⟨_,_,_,_,_,_,_,_,n,_⟩:=x;n
section
variable {X:Cx}
theorem Jf {pins:List (Addr×Obj)}{σ:St}{H:Hp}{s:Shared}{D:Addr}{ms:List Int}(I:Inv X pins σ H s)(h:H D=some (Cz X.w D ms)):SN.Is X.w s.heap D ms:=by
 obtain ⟨x,_⟩:=(show cG X.prog X.w H s.heap D (Cz X.w D ms) from I.hok D _ h);exact x
theorem Bw (hc:X.calm=true):eI X (.type "set") (fun xs H Q=>∃ (p:Addr) (ns:List Int),xs=[.ref p]∧SqL X.K H p (ns.map V.int)∧ns.length+1<4096∧∀ (D:Addr) (ms:List Int),H D=none->ms.Nodup->ms.length<=ns.length->(∀ x,x∈ms↔x∈ns)->Q (.ref D) (upd H D (Cz X.w D ms))):=by
 intro pins s σ H xs us Q I r h;obtain ⟨p,ns,rfl,hq,hz,q⟩:=h;obtain ⟨u,rfl,ru⟩:=fU r;cases ru;obtain ⟨its,rv,pl,_⟩:=I.list hq;have hlen:=rv.length;rw [List.length_map] at hlen;refine SEN.pZ (I.ok.hd hc) pl.isList (ls:=ns) (fun i v e=>?_) (by rw [List.size_toArray];unfold scanBound;omega) (by rw [List.size_toArray];omega) fun h' tk x k=>?_
 ·have e:its[i]?=some v:=by simpa using e
  have hi:i<ns.length:=by have:=(List.getElem?_eq_some_iff.mp e).1;omega
  obtain ⟨u',e1,q1⟩:=rv.get (i:=i) (x:=V.int ns[i]) (by rw [List.getElem?_map,List.getElem?_eq_getElem hi];rfl);rw [e] at e1;obtain rfl:=Option.some.inj e1;obtain ⟨t,rfl⟩:=q1;exact ⟨t,by rw [List.getD_eq_getElem?_getD,List.getElem?_eq_getElem hi];rfl⟩
 obtain ⟨ms,i1,i2,i3⟩:=x;have hf:H s.heap.objs.size=none:=I.hok.fresh (Nat.le_refl _);refine ⟨.ref s.heap.objs.size,_,I.laid (t':=tk) k (Nat.le_refl _) (o:=Cz X.w s.heap.objs.size ms) ⟨i1,i1.there,fun h1 h2 x1 kk=>x1.at kk⟩,rfl,q _ ms hf (Dm i1) (by rw [List.size_toArray] at i3;omega) fun x=>?_⟩;rw [i2,List.size_toArray,<- hlen,List.take_length]
theorem uU (hc:X.calm=true):eI X (.builtin "sorted") (fun xs H Q=>∃ (p:Addr) (ns:List Int),xs=[.ref p]∧H p=some (Cz X.w p ns)∧ns.length<64∧∀ (ms:List Int) (D:Addr),H D=none->ms.Perm ns->ms.Pairwise (·<=·)->Q (.ref D) (upd H D (.lst (ms.map V.int)))):=by
 intro pins s σ H xs us Q I r h;obtain ⟨p,ns,rfl,hq,h64,q⟩:=h;obtain ⟨u,rfl,ru⟩:=fU r;cases ru;have hs:sizeLine=16777216:=sizeLine_eq;have hz:ns.length<=sizeLine:=by omega
 refine Calls.call_function_entry kind_sorted plain_sorted entry_sorted (args_sorted1 _) ?_;unfold Builtin.«sorted»;refine wpAny_bind (m:=checkCount "sorted" 1 1 _) (wpAny_pure (wpAny_bind (SN.lD (I.ok.hd hc) (Jf I hq) hz fun s1 vs ss kp g1 g2 hS hp=>?_)))
 have hg:AllBare s1.gens:=by rw [g1];exact I.bare
 have I1:Inv X pins σ H s1:=I.call' (ch:=[]) g2 (Un.kept kp) (I.hok.kept kp) hg fun _ z=>nomatch z
 have hvl:vs.length=ns.length:=by rw [hS.length,hp.length_eq]
 refine wpAny_bind (wpAny_newList ?_ (by rw [hvl];exact hz));have e2:(s1.heap.push (seqObj "list" vs.toArray 0)).get? s1.heap.objs.size=some (seqObj "list" vs.toArray 0):=Heap.get?_push_size _ rfl
 show wpAny _ _ _ _ _ { s1 with heap:=s1.heap.push (seqObj "list" vs.toArray 0) }
 refine wpAny_bind (wpAny_holding (wpAny_call_entry slot_list_sort ⟨_,e2,rfl⟩ entry_list_sort (list_sort_tree e2 hS (by omega) fun out ns' a1 a2 a3=>⟨_,rfl,?_⟩) (args_list_sort _)));obtain ⟨e,he⟩:=sortedHeap_at (out:=out) e2;have hp':ns'.Perm ns:=a2.trans hp;refine wpAny_pure ⟨_,rfl,⟨.ref _,_,I1.laid (t':=s1.toks) (fun b o eo=>?_) (Nat.le_refl _) (o:=.lst (ns'.map V.int)) ⟨?_,out.toList,e,mO a1,by simpa using he⟩,rfl,q _ _ (I1.hok.fresh (Nat.le_refl _)) hp' a3⟩⟩
 ·have hlt:=Heap.lt_size eo
  rw [sortedHeap_old (Nat.ne_of_lt hlt) (by rw [size_push'];exact Nat.lt_succ_of_lt hlt)];exact Heap.get?_push_of_some _ eo
 ·rw [List.length_map,hp'.length_eq]
  exact hz
end
end L2
namespace L2
open PySem PyProof.Rows
section
variable {X:Cx}
end
open PySem.Spec
section
variable {X:Cx}
theorem Dj (hc:X.calm=true):eI X (.builtin "all") (fun xs H Q=>∃ (p:Addr) (bs:List Bool),xs=[.ref p]∧SqL X.K H p (bs.map V.bl)∧Q (.bl (bs.all id)) H):=by
 intro pins s σ H xs us Q I r h;obtain ⟨p,bs,rfl,hq,q⟩:=h;obtain ⟨u,rfl,ru⟩:=fU r;cases ru;obtain ⟨its,rv,pl,_⟩:=I.list hq;have hlen:=rv.length;rw [List.length_map] at hlen;have hat:∀ (i:Nat) (v:Value),its.toArray[i]?=some v->v = .bool (bs.getD i false):=fun i v e=>by
  have hi:i<bs.length:=by
   have:=(Array.getElem?_eq_some_iff.mp e).1
   rw [List.size_toArray] at this;omega
  obtain ⟨w',e1,q1⟩:=rv.get (i:=i) (x:=.bl bs[i]) (by rw [List.getElem?_map,List.getElem?_eq_getElem hi];rfl);rw [List.getElem?_toArray,e1] at e;obtain rfl:=Option.some.inj e;rw [List.getD_eq_getElem?_getD,List.getElem?_eq_getElem hi];exact q1
 have hall:(List.range its.toArray.size).all (fun i=>bs.getD i false)=bs.all id:=by
  rw [List.size_toArray,<- hlen,Bool.eq_iff_iff,List.all_eq_true,List.all_eq_true];constructor
  ·intro h b hb
   obtain ⟨i,hi⟩:=List.getElem?_of_mem hb;have hil:=(List.getElem?_eq_some_iff.mp hi).1
   have:=h i (List.mem_range.mpr hil)
   rw [List.getD_eq_getElem?_getD,hi] at this;exact this
  ·intro h i hi
   have hil:=List.mem_range.mp hi;rw [List.getD_eq_getElem?_getD,List.getElem?_eq_getElem hil];exact h _ (List.getElem_mem hil)
 have hne:p≠s.heap.objs.size:=by
  obtain ⟨o,ho,_⟩:=id pl.isList;exact Nat.ne_of_lt (Heap.lt_size ho)
 refine call_all_walk (wpAny_pyIter_list pl.isList ⟨s.heap.objs.size,[s.heap.objs.size,p],[s.heap.objs.size],its.toArray.size,_,_,fun i=>bs.getD i false,rfl,Walks.list (A:=X.A.in1) (show X.A.in1.handled=none from I.ok.hd hc) s.heap.objs.size p hne its.toArray,⟨⟨_,Heap.get?_push_size _ rfl,rfl,rfl⟩,pl.isList.at fun o e=>Heap.get?_push_of_some _ e⟩,?_,fun h' tk hk=>?_⟩)
 ·intro i v s' Q' E' hP hQ
  rw [hat i v hP];exact wpAny_truthy_bool hQ
 ·rw [hall]
  exact ⟨.bl _,H,I.kept (fun b o e=>hk b o (by simp;exact Nat.ne_of_lt (Heap.lt_size e)) (Heap.get?_push_of_some _ e)),rfl,q⟩
end
end L2
namespace L2
open PySem
section
variable {X:Cx}
theorem No {st:Stmt}{t t':TS}(h:PS X st t)(hw:∀ (D:kF) (σ:St) (H:Hp),t' D σ H->t D σ H):PS X st t':=fun pins s σ H D I q=>h pins s σ H D I (hw D σ H q)
end
open PyProof.Rows
section
variable {X:Cx}
end
open PySem.Spec
section
variable {X:Cx}
theorem Eo (K:PySem.W.Frag)(hK:X.K=K)(hu:X.A.units<cLine):OpR X (compareOp .NotEq) (fun x y H Q=>∃ (p b:Addr) (ys:List V),x = .ref p∧y = .ref b∧SqL K H p ys∧SqL K H b []∧Q (.bl (!ys.isEmpty)) H):=by
 subst hK;intro pins s σ H x y v u Q I rx ry h;obtain ⟨p,b,ys,rfl,rfl,h1,h2,q⟩:=h;cases rx;cases ry;obtain ⟨its,r,pl,_⟩:=I.list h1;obtain ⟨its2,r2,pl2,_⟩:=I.list h2;have l1:=r.length;have l2:=r2.length
 cases ys with
 | nil =>
  have e1:its=[]:=List.length_eq_zero_iff.mp l1.symm;have e2:its2=[]:=List.length_eq_zero_iff.mp l2.symm;subst e1 e2;refine SeqAt.RcNeAt.lists (e:=fun _=>true) pl.isList pl2.isList rfl hu (fun j g1 g2=>absurd g1 (by simp)) _ _ _ _ ?_;exact ⟨.bl _,H,I,rfl,q⟩
 | cons y ys =>
  refine SeqAt.RcNeAt.lists_lengths pl.isList pl2.isList (by rw [List.size_toArray,List.size_toArray,bne_iff_ne];simp only [List.length_cons,List.length_nil] at l1 l2;omega) hu _ _ _ _ ?_;exact ⟨.bl _,H,I,rfl,q⟩
end
end L2
namespace LT
open PySem PyProof.Rows L2
theorem qN:entryFor table "list.__eq__.loop" = some Builtin.«list.__eq__.loop» := by kernel_rfl
theorem iS:plainId "list.__eq__.loop" = true:=by decide +kernel
section
variable {prog:Program}{w:World}{A:Around}{R:Result->Shared->Prop}{s:Shared}{l b:Addr}{its jts:Array Value}
theorem loop {ls ms:List (List Nat)}(h1:s.heap.IsList l its)(h2:s.heap.IsList b jts)(l1:its.size=ls.length)(l2:jts.size=ms.length)
  (v1:∀ i (h:i<its.size),∃ t,its[i]=Value.str (tx (ls.getD i [])) t) (v2:∀ i (h:i<jts.size),∃ t,jts[i]=Value.str (tx (ms.getD i [])) t)
  (he:∀ (j:Nat) (g1:j<its.size) (g2:j<jts.size),SeqAt.EqAt A.in1 s its[j] jts[j] (decide (ls[j]?=ms[j]?))) (hR:R (.ok (.ret (.bool false))) s) :
  ∀ (xs ys:List (List Nat)) (i:Nat),ls.drop i=xs->ms.drop i=ys->List.Lex (· < ·) xs ys->codeAny (model prog w) A (.builtin "list.__eq__.loop" ⟨[.ref l,.ref b,rawInt (i:Int),rawInt 5],[]⟩) R s:=by
 obtain ⟨o1,g1,_,n1,d1⟩:=h1;obtain ⟨o2,g2,_,n2,d2⟩:=h2;have dl:∀ {zs:List (List Nat)} {i:Nat} {x:List Nat} {r:List (List Nat)},zs.drop i=x::r->i<zs.length∧zs[i]?=some x∧zs.getD i []=x∧zs.drop (i+1)=r:=fun {zs i x r} h=>by
  have h0:i<zs.length:=Nat.lt_of_not_le fun z=>by rw [List.drop_eq_nil_of_le z] at h;cases h
  rw [List.drop_eq_getElem_cons h0] at h;obtain ⟨e1,e2⟩:=List.cons.inj h;refine ⟨h0,by rw [List.getElem?_eq_getElem h0,e1],?_,e2⟩;rw [List.getD_eq_getElem?_getD,List.getElem?_eq_getElem h0,e1];rfl
 intro xs
 induction xs with
 | nil =>
  intro ys i hx hy hlt
  cases ys with
  | nil=>cases hlt
  | cons y ys =>
   obtain ⟨b1,b2,b3,b4⟩:=dl hy;have i1:its.size<=i:=by rw [l1];exact List.drop_eq_nil_iff.mp hx
   have i2:i<jts.size:=by omega
   have e1:its[((i:Nat):Int).toNat]?=none:=by rw [Int.toNat_natCast];exact Array.getElem?_eq_none i1
   refine codeAny_builtin qN ?_;rw [Around.under_plainId iS];refine wpAny_bind (m:=Builtin.List.listItems (.ref l)) (wpAny_listItems g1 d1 ?_);refine wpAny_bind (m:=Builtin.List.listItems (.ref b)) (wpAny_listItems g2 d2 ?_);rw [e1];refine wpAny_bind (m:=Builtin.List.listItems (.ref l)) (wpAny_listItems g1 d1 ?_);refine wpAny_bind (m:=Builtin.List.listItems (.ref b)) (wpAny_listItems g2 d2 ?_);have e3:decide (its.size≥jts.size)=false:=decide_eq_false (by omega);exact wpAny_pure (show R (.ok (.ret (.bool (decide (its.size≥jts.size))))) s by rw [e3];exact hR)
 | cons x xs ih =>
  intro ys i hx hy hlt;obtain ⟨a1,a2,a3,a4⟩:=dl hx
  cases ys with
  | nil=>cases hlt
  | cons y ys =>
   obtain ⟨b1,b2,b3,b4⟩:=dl hy;have i1:i<its.size:=by omega
   have i2:i<jts.size:=by omega
   have e1:its[((i:Nat):Int).toNat]?=some its[i]:=by rw [Int.toNat_natCast];exact Array.getElem?_eq_getElem i1
   have e2:jts[((i:Nat):Int).toNat]?=some jts[i]:=by rw [Int.toNat_natCast];exact Array.getElem?_eq_getElem i2
   refine codeAny_builtin qN ?_;rw [Around.under_plainId iS];refine wpAny_bind (m:=Builtin.List.listItems (.ref l)) (wpAny_listItems g1 d1 ?_);refine wpAny_bind (m:=Builtin.List.listItems (.ref b)) (wpAny_listItems g2 d2 ?_);rw [e1,e2];refine wpAny_bind (m:=eqBool its[i] jts[i]) (he i i1 i2 prog w _ _ ?_);rw [a2,b2]
   cases hlt with
   | cons h =>
    rw [decide_eq_true rfl];exact wpAny_pure ⟨plainId_quiet iS _,ih ys (i+1) a4 b4 h⟩
   | rel h =>
    have hne:x≠y:=fun z=>List.lt_irrefl _ (z▸h)
    rw [decide_eq_false (fun z=>hne (Option.some.inj z))];refine wpAny_bind (m:=Builtin.List.listItems (.ref l)) (wpAny_listItems g1 d1 ?_);refine wpAny_bind (m:=Builtin.List.listItems (.ref b)) (wpAny_listItems g2 d2 ?_);rw [e1,e2];obtain ⟨t1,k1⟩:=v1 i i1;obtain ⟨t2,k2⟩:=v2 i i2;rw [a3] at k1;rw [b3] at k2;rw [k1,k2];refine wpAny_bind (m:=richCompare .GtE (Value.str (tx x) t1) (Value.str (tx y) t2)) (richCompare_gives (op:=.GtE) (typeIs_str s _ t1) (typeIs_str s _ t2) F.slot_str_ge F.entry_str_ge (F.args_str_ge_2 _ _) (gives_str_ge _ _ t1 t2) (fun x=>nomatch x) ?_);rw [dH,dH,decide_eq_true (show x<y from h)];exact wpAny_pure hR
theorem ge {ls ms:List (List Nat)}(h1:s.heap.IsList l its)(h2:s.heap.IsList b jts)(l1:its.size=ls.length)(l2:jts.size=ms.length)
  (v1:∀ i (h:i<its.size),∃ t,its[i]=Value.str (tx (ls.getD i [])) t) (v2:∀ i (h:i<jts.size),∃ t,jts[i]=Value.str (tx (ms.getD i [])) t)
  (he:∀ (A:Around) (j:Nat) (g1:j<its.size) (g2:j<jts.size),SeqAt.EqAt A s its[j] jts[j] (decide (ls[j]?=ms[j]?))) (hlt:ls<ms) (hu:A.units<cLine) {E Q:Value->Shared->Prop} (q:Q (.bool false) s) :
  wpAny (model prog w) A (compareOp .GtE (.ref l) (.ref b)) Q E s:=by
 obtain ⟨o1,g1,c1,n1,d1⟩:=id h1;obtain ⟨o2,g2,c2,n2,d2⟩:=id h2;show wpAny (model prog w) A (richCompare .GtE (.ref l) (.ref b)) Q E s;refine richCompare_meets_room (S:=fun A R s'=>s'=s∧R (.ok (.ret (.bool false))) s) (T := "list") ⟨_,g1,c1⟩ ⟨_,g2,c2⟩ F.slot_list_ge F.entry_list_ge (F.args_list_ge_2 _ _) (fun prog w A R s' h=>?_) ⟨rfl,?_⟩ hu
 ·obtain ⟨rfl,hR⟩:=h
  refine wpAny_bind (m:=PySem.isInstance (.ref b) (.type "list")) (wpAny_isInstance (T := "list") (b:=true) ⟨_,g2,c2⟩ (by rfl) ?_)
  refine wpAny_pure ⟨plainId_quiet iS _,?_⟩;exact loop h1 h2 l1 l2 v1 v2 (he A.in1) hR ls ms 0 rfl rfl hlt
 ·exact ⟨(fun z=>nomatch z),q⟩
end
section
variable {X:Cx}
theorem Ho (hu:X.A.units<cLine):OpR X (compareOp .GtE) (fun x y H Q=>∃ (p b:Addr) (ls ms:List (List Nat)),x = .ref p∧y = .ref b∧SqL X.K H p (ls.map T)∧SqL X.K H b (ms.map T)∧ls<ms∧Q (.bl false) H):=by
 intro pins s σ H x y v u Q I rx ry h;obtain ⟨p,b,ls,ms,rfl,rfl,h1,h2,hlt,q⟩:=h;cases rx;cases ry;obtain ⟨its,r,pl,_⟩:=I.list h1;obtain ⟨its2,r2,pl2,_⟩:=I.list h2;have l1:=r.length;have l2:=r2.length;rw [List.length_map] at l1 l2;have vv:∀ {zs:List (List Nat)} {us:List Value},bT (zs.map T) us->∀ i (h:i<us.toArray.size),∃ t,us.toArray[i]=Value.str (tx (zs.getD i [])) t:=fun {zs us} r i h=>by
  rw [List.size_toArray] at h;have hl:=r.length;rw [List.length_map] at hl;have hi:i<zs.length:=by omega
  obtain ⟨u,e,ru⟩:=r.get (i:=i) (x:=T zs[i]) (by rw [List.getElem?_map,List.getElem?_eq_getElem hi];rfl);obtain ⟨t,rfl⟩:=ru;refine ⟨t,?_⟩;rw [List.getElem_toArray,List.getD_eq_getElem?_getD,List.getElem?_eq_getElem hi];rw [List.getElem?_eq_getElem h] at e;exact Option.some.inj e
 refine ge pl.isList pl2.isList (by rw [List.size_toArray];omega) (by rw [List.size_toArray];omega) (vv r) (vv r2) (fun A j g1 g2=>yZ r r2 (by simp) (by simp)) hlt hu ?_;exact ⟨.bl _,H,I,rfl,q⟩
end
end LT
namespace L2
open PySem PyProof.Rows PySem.Spec
section
variable {X:Cx}{e:Expr}{ta:TE}{f:Str}{pos:Pos}
theorem Il (K:PySem.W.Frag)(h:X.K=K)(he:PE X e ta)(hb:attributeBase e f X.env (eval e X.env)=eval e X.env):PE X (.Attribute e f pos) (Om K ta f):=by subst h;exact uH he hb
end
end L2
namespace K33
open PySem L2
seal L2.PSs L2.PS L2.PE L2.PA L2.PT L2.PW L2.PI L2.PG L2.PGs L2.PO L2.PTy L2.PH L2.OpR L2.eI L2.IxR L2.SlR L2.UnR L2.Qu
def top (i:Nat):Stmt:=PySem.Challenge.pw_onceround_k33_trees_there_and_back.main.body.getD i (.Pass ⟨0,0,0,0⟩)
abbrev cZ:Stmt:=top 6
abbrev gK:Stmt:=top 7
abbrev fW:Stmt:=top 8
abbrev bI:Stmt:=top 9
abbrev bK:Stmt:=top 10
abbrev dD:Stmt:=top 11
abbrev eB:Stmt:=top 12
abbrev dI:Stmt:=top 23
abbrev dB:Stmt:=top 24
abbrev gL:Stmt:=top 25
abbrev iH:Stmt:=top 26
abbrev eZ:Stmt:=top 30
abbrev fY:Stmt:=Jk (top 31) 0
abbrev fX:Stmt:=top 32
abbrev iI:Stmt:=top 33
abbrev gA:Stmt:=top 34
abbrev kW:Stmt:=top 35
abbrev dC:Stmt:=top 37
abbrev cC:Stmt:=top 38
abbrev eA:Stmt:=top 39
abbrev eV:Stmt:=top 40
abbrev fH:Stmt:=top 41
abbrev fM:Stmt:=top 42
abbrev gJ:Stmt:=top 43
abbrev dZ:Stmt:=top 44
abbrev dO:Stmt:=top 46
abbrev fA:Stmt:=top 47
abbrev eP:Stmt:=top 48
abbrev cL:Stmt:=top 49
abbrev dU:Stmt:=top 50
abbrev cF:Stmt:=top 51
abbrev cK:Stmt:=top 52
abbrev fK:Stmt:=top 53
abbrev eW:Stmt:=top 54
abbrev cX:Stmt:=top 56
abbrev dJ:Stmt:=top 57
abbrev jI:Stmt:=top 58
theorem mT:aX ["place", "last", "times"] ["place", "last"] (aE cZ):=⟨rfl,rfl,rfl,by decide +kernel,rfl,by decide +kernel,by decide +kernel⟩
theorem cN:aX ["number", "prime", "last", "rest", "last_times", "times", "quotient", "next_rest", "more_times"] ["number", "prime"] (aE gK):=⟨rfl,rfl,rfl,by decide +kernel,rfl,by decide +kernel,by decide +kernel⟩
theorem oX:aX ["row", "top", "back", "prime", "times"] ["row", "top", "back", "prime"] (aE fW):=⟨rfl,rfl,rfl,by decide +kernel,rfl,by decide +kernel,by decide +kernel⟩
def rK:Scope:={ kind:=PySem.ScopeKind.function,names:=[ (PySem.Str.ofString ".0",PySem.NameKind.local),(PySem.Str.ofString "number",PySem.NameKind.local),(PySem.Str.ofString "above",PySem.NameKind.local),(PySem.Str.ofString "times",PySem.NameKind.free)],isGenerator:=false,isCoroutine:=false,more:=[]:PySem.Scope }
theorem vT:tY ["row", "top", "back", "prime", "times"] ["number", "above", "row", "top", "back", "prime", "times"] (aE fW) rK "number" "above" := ⟨rfl,by decide +kernel,by decide +kernel,rfl,rfl,by decide +kernel,rfl,rfl,rfl,by decide +kernel,rfl,by decide +kernel,by decide +kernel⟩
theorem cY:aX ["numbers", "place", "number"] ["numbers"] (aE bI):=⟨rfl,rfl,rfl,by decide +kernel,rfl,by decide +kernel,by decide +kernel⟩
theorem bF:aX ["square", "prime", "rows", "rest", "place", "top", "back"] ["square", "prime"] (aE bK):=⟨rfl,rfl,rfl,by decide +kernel,rfl,by decide +kernel,by decide +kernel⟩
def iQ:Scope:={ kind:=PySem.ScopeKind.function,names:=[ (PySem.Str.ofString ".0",PySem.NameKind.local),(PySem.Str.ofString "row",PySem.NameKind.local),(PySem.Str.ofString "prime",PySem.NameKind.free)],isGenerator:=false,isCoroutine:=false,more:=[]:PySem.Scope }
theorem jC:cP ["square", "prime", "rows", "rest", "place", "top", "back"] ["row", "square", "prime", "rows", "rest", "place", "top", "back"] (aE bK) iQ "row" := ⟨rfl,by decide +kernel,by decide +kernel,rfl,by decide +kernel,rfl,rfl,by decide +kernel,rfl,by decide +kernel,by decide +kernel⟩
def iR:Scope:={ kind:=PySem.ScopeKind.function,names:=[ (PySem.Str.ofString ".0",PySem.NameKind.local),(PySem.Str.ofString "number",PySem.NameKind.local),(PySem.Str.ofString "prime",PySem.NameKind.free)],isGenerator:=false,isCoroutine:=false,more:=[]:PySem.Scope }
theorem jD:cP ["square", "prime", "rows", "rest", "place", "top", "back"] ["number", "square", "prime", "rows", "rest", "place", "top", "back"] (aE bK) iR "number" := ⟨rfl,by decide +kernel,by decide +kernel,rfl,by decide +kernel,rfl,rfl,by decide +kernel,rfl,by decide +kernel,by decide +kernel⟩
def iV:Scope:={ kind:=PySem.ScopeKind.function,names:=[ (PySem.Str.ofString ".0",PySem.NameKind.local),(PySem.Str.ofString "row",PySem.NameKind.local),(PySem.Str.ofString "lowered",PySem.NameKind.globalImplicit),(PySem.Str.ofString "back",PySem.NameKind.free),(PySem.Str.ofString "prime",PySem.NameKind.free),(PySem.Str.ofString "top",PySem.NameKind.free)],isGenerator:=false,isCoroutine:=false,more:=[]:PySem.Scope }
theorem jB:cP ["square", "prime", "rows", "rest", "place", "top", "back"] ["row", "square", "prime", "rows", "rest", "place", "top", "back"] (aE bK) iV "row" := ⟨rfl,by decide +kernel,by decide +kernel,rfl,by decide +kernel,rfl,rfl,by decide +kernel,rfl,by decide +kernel,by decide +kernel⟩
theorem fP:aX ["square", "bound", "row"] ["square"] (aE dD):=⟨rfl,rfl,rfl,by decide +kernel,rfl,by decide +kernel,by decide +kernel⟩
def lK:Scope:={ kind:=PySem.ScopeKind.function,names:=[ (PySem.Str.ofString ".0",PySem.NameKind.local),(PySem.Str.ofString "number",PySem.NameKind.local),(PySem.Str.ofString "abs",PySem.NameKind.globalImplicit)],isGenerator:=false,isCoroutine:=false,more:=[]:PySem.Scope }
theorem mJ:cP ["square", "bound", "row"] ["number", "square", "bound", "row"] (aE dD) lK "number" := ⟨rfl,by decide +kernel,by decide +kernel,rfl,by decide +kernel,rfl,rfl,by decide +kernel,rfl,by decide +kernel,by decide +kernel⟩
theorem bN:aX ["square", "bound", "result", "modulus", "place", "times", "prime", "lacking"] ["square"] (aE eB):=⟨rfl,rfl,rfl,by decide +kernel,rfl,by decide +kernel,by decide +kernel⟩
theorem oG:aX ["kinds"] ["kinds"] (aE dI):=⟨rfl,rfl,rfl,by decide +kernel,rfl,by decide +kernel,by decide +kernel⟩
theorem mI:aX ["length", "kinds"] ["length", "kinds"] (aE dB):=⟨rfl,rfl,rfl,by decide +kernel,rfl,by decide +kernel,by decide +kernel⟩
theorem zU:aX ["kinds"] ["kinds"] (aE gL):=⟨rfl,rfl,rfl,by decide +kernel,rfl,by decide +kernel,by decide +kernel⟩
theorem mY:aX ["word", "kinds", "known", "sign"] ["word", "kinds"] (aE iH):=⟨rfl,rfl,rfl,by decide +kernel,rfl,by decide +kernel,by decide +kernel⟩
theorem kO:aX ["words", "word"] ["words"] (aE eZ):=⟨rfl,rfl,rfl,by decide +kernel,rfl,by decide +kernel,by decide +kernel⟩
theorem wU:aX ["self", "words"] ["self", "words"] (aE fY):=⟨rfl,rfl,rfl,by decide +kernel,rfl,by decide +kernel,by decide +kernel⟩
theorem xX:aX ["word"] ["word"] (aE fX):=⟨rfl,rfl,rfl,by decide +kernel,rfl,by decide +kernel,by decide +kernel⟩
theorem Cj:aX ["word"] ["word"] (aE iI):=⟨rfl,rfl,rfl,by decide +kernel,rfl,by decide +kernel,by decide +kernel⟩
theorem Co:aX ["web"] ["web"] (aE gA):=⟨rfl,rfl,rfl,by decide +kernel,rfl,by decide +kernel,by decide +kernel⟩
def vN:Scope:={ kind:=PySem.ScopeKind.function,names:=[ (PySem.Str.ofString ".0",PySem.NameKind.local),(PySem.Str.ofString "word",PySem.NameKind.local),(PySem.Str.ofString "begin_of",PySem.NameKind.globalImplicit)],isGenerator:=false,isCoroutine:=false,more:=[]:PySem.Scope }
theorem xI:cP ["web"] ["word", "web"] (aE gA) vN "word" := ⟨rfl,by decide +kernel,by decide +kernel,rfl,by decide +kernel,rfl,rfl,by decide +kernel,rfl,by decide +kernel,by decide +kernel⟩
def vL:Scope:={ kind:=PySem.ScopeKind.function,names:=[ (PySem.Str.ofString ".0",PySem.NameKind.local),(PySem.Str.ofString "word",PySem.NameKind.local),(PySem.Str.ofString "end_of",PySem.NameKind.globalImplicit)],isGenerator:=false,isCoroutine:=false,more:=[]:PySem.Scope }
theorem wW:cP ["web"] ["word", "web"] (aE gA) vL "word" := ⟨rfl,by decide +kernel,by decide +kernel,rfl,by decide +kernel,rfl,rfl,by decide +kernel,rfl,by decide +kernel,by decide +kernel⟩
theorem Ij:aX ["web", "piece"] ["web", "piece"] (aE kW):=⟨rfl,rfl,rfl,by decide +kernel,rfl,by decide +kernel,by decide +kernel⟩
def yA:Scope:={ kind:=PySem.ScopeKind.function,names:=[ (PySem.Str.ofString ".0",PySem.NameKind.local),(PySem.Str.ofString "word",PySem.NameKind.local),(PySem.Str.ofString "begin_of",PySem.NameKind.globalImplicit),(PySem.Str.ofString "piece",PySem.NameKind.free)],isGenerator:=false,isCoroutine:=false,more:=[]:PySem.Scope }
theorem Dx:cP ["web", "piece"] ["word", "web", "piece"] (aE kW) yA "word" := ⟨rfl,by decide +kernel,by decide +kernel,rfl,by decide +kernel,rfl,rfl,by decide +kernel,rfl,by decide +kernel,by decide +kernel⟩
theorem kI:aX ["texts", "text", "words", "ends"] ["texts", "text", "words"] (aE dC):=⟨rfl,rfl,rfl,by decide +kernel,rfl,by decide +kernel,by decide +kernel⟩
def mL:Scope:={ kind:=PySem.ScopeKind.function,names:=[ (PySem.Str.ofString ".0",PySem.NameKind.local),(PySem.Str.ofString "word",PySem.NameKind.local),(PySem.Str.ofString "end_of",PySem.NameKind.globalImplicit)],isGenerator:=false,isCoroutine:=false,more:=[]:PySem.Scope }
theorem nZ:cP ["texts", "text", "words", "ends"] ["word", "texts", "text", "words", "ends"] (aE dC) mL "word" := ⟨rfl,by decide +kernel,by decide +kernel,rfl,by decide +kernel,rfl,rfl,by decide +kernel,rfl,by decide +kernel,by decide +kernel⟩
def mX:Scope:={ kind:=PySem.ScopeKind.function,names:=[ (PySem.Str.ofString ".0",PySem.NameKind.local),(PySem.Str.ofString "other",PySem.NameKind.local),(PySem.Str.ofString "len",PySem.NameKind.globalImplicit),(PySem.Str.ofString "ends",PySem.NameKind.free),(PySem.Str.ofString "text",PySem.NameKind.free)],isGenerator:=false,isCoroutine:=false,more:=[]:PySem.Scope }
theorem oC:cP ["texts", "text", "words", "ends"] ["other", "texts", "text", "words", "ends"] (aE dC) mX "other" := ⟨rfl,by decide +kernel,by decide +kernel,rfl,by decide +kernel,rfl,rfl,by decide +kernel,rfl,by decide +kernel,by decide +kernel⟩
theorem gP:aX ["ways", "texts"] ["ways"] (aE cC):=⟨rfl,rfl,rfl,by decide +kernel,rfl,by decide +kernel,by decide +kernel⟩
def jE:Scope:={ kind:=PySem.ScopeKind.function,names:=[ (PySem.Str.ofString ".0",PySem.NameKind.local),(PySem.Str.ofString "text",PySem.NameKind.local),(PySem.Str.ofString "choice_row",PySem.NameKind.globalImplicit),(PySem.Str.ofString "texts",PySem.NameKind.free),(PySem.Str.ofString "ways",PySem.NameKind.free)],isGenerator:=false,isCoroutine:=false,more:=[]:PySem.Scope }
theorem jN:cP ["ways", "texts"] ["text", "ways", "texts"] (aE cC) jE "text" := ⟨rfl,by decide +kernel,by decide +kernel,rfl,by decide +kernel,rfl,rfl,by decide +kernel,rfl,by decide +kernel,by decide +kernel⟩
theorem fR:aX ["web", "piece", "every", "ways", "other"] ["web", "piece"] (aE eA):=⟨rfl,rfl,rfl,by decide +kernel,rfl,by decide +kernel,by decide +kernel⟩
theorem rV:aX ["web", "piece"] ["web", "piece"] (aE eV):=⟨rfl,rfl,rfl,by decide +kernel,rfl,by decide +kernel,by decide +kernel⟩
theorem dW:aX ["words", "piece", "begins", "word", "found", "waiting", "at", "begin"] ["words", "piece"] (aE fH):=⟨rfl,rfl,rfl,by decide +kernel,rfl,by decide +kernel,by decide +kernel⟩
theorem kS:aX ["web", "piece", "tree", "ways", "known"] ["web", "piece", "tree"] (aE fM):=⟨rfl,rfl,rfl,by decide +kernel,rfl,by decide +kernel,by decide +kernel⟩
def rT:Scope:={ kind:=PySem.ScopeKind.function,names:=[ (PySem.Str.ofString ".0",PySem.NameKind.local),(PySem.Str.ofString "word",PySem.NameKind.local),(PySem.Str.ofString "begin_of",PySem.NameKind.globalImplicit)],isGenerator:=false,isCoroutine:=false,more:=[]:PySem.Scope }
theorem uX:cP ["web", "piece", "tree", "ways", "known"] ["word", "web", "piece", "tree", "ways", "known"] (aE fM) rT "word" := ⟨rfl,by decide +kernel,by decide +kernel,rfl,by decide +kernel,rfl,rfl,by decide +kernel,rfl,by decide +kernel,by decide +kernel⟩
def rN:Scope:={ kind:=PySem.ScopeKind.function,names:=[ (PySem.Str.ofString ".0",PySem.NameKind.local),(PySem.Str.ofString "word",PySem.NameKind.local),(PySem.Str.ofString "web",PySem.NameKind.free)],isGenerator:=false,isCoroutine:=false,more:=[]:PySem.Scope }
theorem vM:cP ["web", "piece", "tree", "ways", "known"] ["word", "web", "piece", "tree", "ways", "known"] (aE fM) rN "word" := ⟨rfl,by decide +kernel,by decide +kernel,rfl,by decide +kernel,rfl,rfl,by decide +kernel,rfl,by decide +kernel,by decide +kernel⟩
theorem eO:aX ["web", "piece", "number", "ways", "tree", "ahead", "other", "word", "many"] ["web", "piece", "number"] (aE gJ):=⟨rfl,rfl,rfl,by decide +kernel,rfl,by decide +kernel,by decide +kernel⟩
theorem cV:aX ["web", "piece", "tree", "ways", "number", "word", "begin", "lesser"] ["web", "piece", "tree"] (aE dZ):=⟨rfl,rfl,rfl,by decide +kernel,rfl,by decide +kernel,by decide +kernel⟩
theorem oA:aX ["script", "k"] ["script", "k"] (aE dO):=⟨rfl,rfl,rfl,by decide +kernel,rfl,by decide +kernel,by decide +kernel⟩
theorem rR:aX ["found", "due"] ["found", "due"] (aE fA):=⟨rfl,rfl,rfl,by decide +kernel,rfl,by decide +kernel,by decide +kernel⟩
theorem dX:aX ["cells", "kinds", "first", "words", "here", "cell", "free", "word"] ["cells", "kinds", "first"] (aE eP):=⟨rfl,rfl,rfl,by decide +kernel,rfl,by decide +kernel,by decide +kernel⟩
def oE:Scope:={ kind:=PySem.ScopeKind.function,names:=[ (PySem.Str.ofString ".0",PySem.NameKind.local),(PySem.Str.ofString "sign",PySem.NameKind.local),(PySem.Str.ofString "here",PySem.NameKind.free),(PySem.Str.ofString "words",PySem.NameKind.free)],isGenerator:=false,isCoroutine:=false,more:=[]:PySem.Scope }
theorem qV:cP ["cells", "kinds", "first", "words", "here", "cell", "free", "word"] ["sign", "cells", "kinds", "first", "words", "here", "cell", "free", "word"] (aE eP) oE "sign" := ⟨rfl,by decide +kernel,by decide +kernel,rfl,by decide +kernel,rfl,rfl,by decide +kernel,rfl,by decide +kernel,by decide +kernel⟩
theorem bA:aX ["script", "at", "most", "length", "kinds", "drawn", "first", "k", "words"] ["script", "at", "most"] (aE cL):=⟨rfl,rfl,rfl,by decide +kernel,rfl,by decide +kernel,by decide +kernel⟩
theorem eC:aX ["kinds", "length", "words", "k", "longer", "word"] ["kinds", "length"] (aE dU):=⟨rfl,rfl,rfl,by decide +kernel,rfl,by decide +kernel,by decide +kernel⟩
def nE:Scope:={ kind:=PySem.ScopeKind.function,names:=[ (PySem.Str.ofString ".0",PySem.NameKind.local),(PySem.Str.ofString "sign",PySem.NameKind.local),(PySem.Str.ofString "word",PySem.NameKind.free)],isGenerator:=false,isCoroutine:=false,more:=[]:PySem.Scope }
theorem nY:cP ["kinds", "length", "words", "k", "longer", "word"] ["sign", "kinds", "length", "words", "k", "longer", "word"] (aE dU) nE "sign" := ⟨rfl,by decide +kernel,by decide +kernel,rfl,by decide +kernel,rfl,rfl,by decide +kernel,rfl,by decide +kernel,by decide +kernel⟩
theorem bG:aX ["cell", "most", "sizes", "kinds", "length", "part", "words", "word"] ["cell", "most"] (aE cF):=⟨rfl,rfl,rfl,by decide +kernel,rfl,by decide +kernel,by decide +kernel⟩
theorem aQ:aX ["script", "at", "most", "words", "way", "drawn", "k", "word", "j", "part"] ["script", "at", "most"] (aE cK):=⟨rfl,rfl,rfl,by decide +kernel,rfl,by decide +kernel,by decide +kernel⟩
theorem gI:aX ["words", "piece", "ways", "word", "other"] ["words", "piece"] (aE fK):=⟨rfl,rfl,rfl,by decide +kernel,rfl,by decide +kernel,by decide +kernel⟩
theorem fC:aX ["chosen", "text", "here", "step"] ["chosen"] (aE eW):=⟨rfl,rfl,rfl,by decide +kernel,rfl,by decide +kernel,by decide +kernel⟩
theorem fE:aX ["words", "piece", "tree", "ways", "chosen", "word"] ["words", "piece", "tree"] (aE cX):=⟨rfl,rfl,rfl,by decide +kernel,rfl,by decide +kernel,by decide +kernel⟩
def kY:Scope:={ kind:=PySem.ScopeKind.function,names:=[(PySem.Str.ofString ".0",PySem.NameKind.local),(PySem.Str.ofString "word",PySem.NameKind.local)],isGenerator:=false,isCoroutine:=false,more:=[]:PySem.Scope }
theorem mB:cP ["words", "piece", "tree", "ways", "chosen", "word"] ["word", "words", "piece", "tree", "ways", "chosen", ""] (aE cX) kY "word" := ⟨rfl,by decide +kernel,by decide +kernel,rfl,by decide +kernel,rfl,rfl,by decide +kernel,rfl,by decide +kernel,by decide +kernel⟩
theorem dY:aX ["script", "many", "made", "found", "cell"] ["script", "many"] (aE dJ):=⟨rfl,rfl,rfl,by decide +kernel,rfl,by decide +kernel,by decide +kernel⟩
theorem hU:aX ["script", "words", "web", "every", "piece", "many", "before", "number", "tree"] ["script"] (aE jI):=⟨rfl,rfl,rfl,by decide +kernel,rfl,by decide +kernel,by decide +kernel⟩
def Do:Scope:={ kind:=PySem.ScopeKind.function,names:=[(PySem.Str.ofString ".0",PySem.NameKind.local),(PySem.Str.ofString "word",PySem.NameKind.local)],isGenerator:=false,isCoroutine:=false,more:=[]:PySem.Scope }
theorem Gg:cP ["script", "words", "web", "every", "piece", "many", "before", "number", "tree"] ["word", "script", "words", "web", "every", "piece", "many", "before", "number", "tree"] (aE jI) Do "word" := ⟨rfl,by decide +kernel,by decide +kernel,rfl,by decide +kernel,rfl,rfl,by decide +kernel,rfl,by decide +kernel,by decide +kernel⟩
def By:Scope:={ kind:=PySem.ScopeKind.function,names:=[(PySem.Str.ofString ".0",PySem.NameKind.local),(PySem.Str.ofString "word",PySem.NameKind.local)],isGenerator:=false,isCoroutine:=false,more:=[]:PySem.Scope }
theorem Gy:cP ["script", "words", "web", "every", "piece", "many", "before", "number", "tree"] ["word", "script", "words", "web", "every", "piece", "many", "before", "number", "tree"] (aE jI) By "word" := ⟨rfl,by decide +kernel,by decide +kernel,rfl,by decide +kernel,rfl,rfl,by decide +kernel,rfl,by decide +kernel,by decide +kernel⟩
set_option genInjectivity false in
structure Adr where
 BadKinds:Addr
 BadWord:Addr
 TooMany:Addr
 NoSuch:Addr
 NotOne:Addr
 Web:Addr
 KNOWN_TIMES:Addr
 u_FIRST_PRIME:Value
 u_STEP:Value
 u_LETTERS:Value
 u_LONGEST:Value
 u_MOST_OF_A_WEB:Value
 u_LONGEST_OF_A_WEB:Value
set_option genInjectivity false in
structure Txt (K:PySem.W.Frag)(mg:Str->Option Value)(ad:Adr):Prop where
 b_abs:mg "abs" = none
 b_all:mg "all" = none
 b_bool:mg "bool" = none
 b_enumerate:mg "enumerate" = none
 b_int:mg "int" = none
 b_isinstance:mg "isinstance" = none
 b_len:mg "len" = none
 b_list:mg "list" = none
 b_range:mg "range" = none
 b_set:mg "set" = none
 b_sorted:mg "sorted" = none
 b_sum:mg "sum" = none
 b_tuple:mg "tuple" = none
 b_zip:mg "zip" = none
 m_BadKinds:mg "BadKinds" = some (.ref ad.BadKinds)
 m_BadWord:mg "BadWord" = some (.ref ad.BadWord)
 m_TooMany:mg "TooMany" = some (.ref ad.TooMany)
 m_NoSuch:mg "NoSuch" = some (.ref ad.NoSuch)
 m_NotOne:mg "NotOne" = some (.ref ad.NotOne)
 m_Web:mg "Web" = some (.ref ad.Web)
 m_KNOWN_TIMES:mg "KNOWN_TIMES" = some (.ref ad.KNOWN_TIMES)
 x_BadKinds:Exc K mg "BadKinds" ad.BadKinds
 x_BadWord:Exc K mg "BadWord" ad.BadWord
 x_TooMany:Exc K mg "TooMany" ad.TooMany
 x_NoSuch:Exc K mg "NoSuch" ad.NoSuch
 x_NotOne:Exc K mg "NotOne" ad.NotOne
 g_FIRST_PRIME:mg "FIRST_PRIME" = some ad.u_FIRST_PRIME
 r_FIRST_PRIME:bE (.int 2305843009213693951) ad.u_FIRST_PRIME
 g_STEP:mg "STEP" = some ad.u_STEP
 r_STEP:bE (.int 6277101735386680763835789423207666416102355444464034512896) ad.u_STEP
 g_LETTERS:mg "LETTERS" = some ad.u_LETTERS
 r_LETTERS:bE (T [97,98,99,100,101,102]) ad.u_LETTERS
 g_LONGEST:mg "LONGEST" = some ad.u_LONGEST
 r_LONGEST:bE (.int 24) ad.u_LONGEST
 g_MOST_OF_A_WEB:mg "MOST_OF_A_WEB" = some ad.u_MOST_OF_A_WEB
 r_MOST_OF_A_WEB:bE (.int 64) ad.u_MOST_OF_A_WEB
 g_LONGEST_OF_A_WEB:mg "LONGEST_OF_A_WEB" = some ad.u_LONGEST_OF_A_WEB
 r_LONGEST_OF_A_WEB:bE (.int 8) ad.u_LONGEST_OF_A_WEB
 kt:tupIs K ad.KNOWN_TIMES [133,211,598,652,721,850,1282,1417,1582,1681,1726,1837,1885,2017,2377,2383,2452,2476,2530,2611,2662,2698,2773,2878,2917,2980,2998,3082,3238,3250,3343,3421,3427,3670,3817,4162,4252,4447,4468,4621,4630,4747,4867,4891,4915,5128,5143,5236,5401,5587,5650,5803,5833,5923,5986,6202,6235,6286,6496,6526,6736,7093,7561,7696,7831,7855,7882,7927,8143,8248]=true
 cl_Web:Cls K ad.Web
 na_Web_words:jK K ad.Web "words"
 na_Web_length:jK K ad.Web "length"
theorem eF {CX:CXT}{P:Program}{w:World}{K:PySem.W.Frag}{mg:Str->Option Value}{base:Heap}{N:List Str}{q:Str}{sc:Scope}{f:Addr}{cdv:Value}{A:Around}{outer:List Env}{s:Shared}{H:Hp}{E:XK}:(nV CX P w K mg base N q sc f cdv A outer s H E).nox.K=K:=rfl
section
variable {P:Program}{w:World}{K:PySem.W.Frag}{mg:Str->Option Value}{base:Heap}{ad:Adr}
theorem Qf {m:Nat}(h:m<6):([97,98,99,100,101,102]:List Nat)[m]?=some (97+m):=by
 have key:∀ m:Nat,m<6->([97,98,99,100,101,102]:List Nat)[m]?=some (97+m):=by decide
 exact key m h
theorem Ai {k c:Nat}(hk:k<=6):c∈([97,98,99,100,101,102]:List Nat).take k↔97<=c∧c<97+k:=by
 have key:∀ k:Nat,k<7->([97,98,99,100,101,102]:List Nat).take k=(List.range k).map (97 + ·):=by decide
 rw [key k (Nat.lt_succ_of_le hk),List.mem_map];exact ⟨fun ⟨i,h,e⟩=>e▸⟨Nat.le_add_right _ _,Nat.add_lt_add_left (List.mem_range.mp h) _⟩,fun ⟨h1,h2⟩=>⟨c-97,List.mem_range.mpr (Nat.sub_lt_left_of_lt_add h1 h2),Nat.add_sub_cancel' h1⟩⟩
def lT (ad:Adr):Sp:=fun vs H Q E=>∃ k:Int,vs=[.int k]∧((1<=k∧k<=6)->Q .non H)∧(¬ (1<=k∧k<=6)->E (.ref ad.BadKinds) none H)
theorem nU {f:Addr}{fd:FuncData}(F:Fun K "looked_kinds" "looked_kinds" dI f fd)(tt:Txt K mg ad):cO P w K mg base (CX1 P w) 1 f fd ["kinds"] (lT ad):=by
 refine F.okX oG (fun vs H Q E h=>?_) (fun cdv A outer s H vs Q E hr h=>?_)
 ·obtain ⟨k,rfl,_⟩:=h
  rfl
 ·obtain ⟨k,rfl,q,x⟩:=h
  have hs:sizeLine=16777216:=sizeLine_eq;refine ⟨_,(aF (bX (PW.pt (sX (aO qW (pv 0) aG (aZ _)) (mZ (aO nJ (pv 0) (aN eT (by rfl) tt.b_len PySem.boot_len (aA (fS (by rfl) tt.g_LETTERS tt.r_LETTERS) aD)) (aZ _))))) (aF (eM (E:=fun cls H'=>E cls none H') tt.x_BadKinds rfl (fun _ _ _ _ _ _ _ I hx q=>gN I hx q) (aA (cH [107,105,110,100,115,32,97,114,101,32,97,32,119,104,111,108,101,32,110,117,109,98,101,114,32,102,114,111,109,32,49,32,116,111,32,54] (by decide +kernel)) aD))) aW)),?_⟩
  (try rw [eF]);(try rw [cxK1])
  refine ⟨_,rfl,_,_,rfl,rfl,_,rfl,?_⟩;refine gF (fun h0=>wF ?_) (fun h0=>?_)
  ·have h1:k<1:=of_decide_eq_true h0
   exact ⟨(by show 1<=sizeLine;omega),x fun z=>by omega⟩
  ·have h1:¬ k<1:=fun z=>h0 (decide_eq_true z)
   refine ⟨_,rfl,_,rfl,(by show 6<=sizeLine;omega),_,_,rfl,rfl,_,rfl,?_⟩;refine gF (fun h2=>?_) (fun h2=>?_)
   ·have h3:(6:Int)<k:=of_decide_eq_true h2
    exact ⟨(by show 1<=sizeLine;omega),x fun z=>by omega⟩
   ·have h3:¬ (6:Int)<k:=fun z=>h2 (decide_eq_true z)
    exact q ⟨by omega,by omega⟩
def zH (ad:Adr):Sp:=fun vs H Q E=>∃ n k:Int,vs=[.int n,.int k]∧((1<=k∧k<=6)->(1<=n∧n<=24)->Q .non H)∧(¬ (1<=k∧k<=6)->E (.ref ad.BadKinds) none H)∧((1<=k∧k<=6)->¬ (1<=n∧n<=24)->E (.ref ad.BadWord) none H)
theorem nD {f:Addr}{fd:FuncData}(F:Fun K "looked_length" "looked_length" dB f fd)(tt:Txt K mg ad)(C_looked_kinds:Cal P w K mg base (CX1 P w) "looked_kinds" 1 ["kinds"] (lT ad)) :
  cO P w K mg base (CX1 P w) 2 f fd ["length", "kinds"] (zH ad):=by
 refine F.okX mI (fun vs H Q E h=>?_) (fun cdv A outer s H vs Q E hr h=>?_)
 ·obtain ⟨n,k,rfl,_⟩:=h
  rfl
 ·obtain ⟨n,k,rfl,q,x1,x2⟩:=h
  have hs:sizeLine=16777216:=sizeLine_eq;refine ⟨_,(aB (eJ (aP C_looked_kinds hr jL (aA (pv 1) aD)))
   (aF (bX (PW.pt (sX (aO qW (pv 0) aG (aZ _)) (mZ (aO nJ (pv 0) (fS (by rfl) tt.g_LONGEST tt.r_LONGEST) (aZ _))))) (aF (eM (E:=fun cls H'=>E cls none H') tt.x_BadWord rfl (fun _ _ _ _ _ _ _ I hx q=>gN I hx q) (aA (cH [97,32,119,111,114,100,32,104,97,115,32,49,32,116,111,32,50,52,32,108,101,116,116,101,114,115] (by decide +kernel)) aD))) aW))),?_⟩
  (try rw [eF]);(try rw [cxK1])
  refine ⟨_,rfl,k,rfl,fun hk=>?_,x1⟩;refine ⟨_,rfl,_,_,rfl,rfl,_,rfl,?_⟩;refine gF (fun h0=>wF ?_) (fun h0=>?_)
  ·have h1:n<1:=of_decide_eq_true h0
   exact ⟨(by show 1<=sizeLine;omega),x2 hk fun z=>by omega⟩
  ·have h1:¬ n<1:=fun z=>h0 (decide_eq_true z)
   refine ⟨_,rfl,_,_,rfl,rfl,_,rfl,?_⟩;refine gF (fun h2=>?_) (fun h2=>?_)
   ·have h3:(24:Int)<n:=of_decide_eq_true h2
    exact ⟨(by show 1<=sizeLine;omega),x2 hk fun z=>by omega⟩
   ·have h3:¬ (24:Int)<n:=fun z=>h2 (decide_eq_true z)
    exact q hk ⟨by omega,by omega⟩
def kT (ad:Adr):Sp:=fun vs H Q E=>∃ k:Int,vs=[.int k]∧(∀ kn:Nat,k=(kn:Nat)->(1<=kn∧kn<=6)->Q (T (([97,98,99,100,101,102]:List Nat).take kn)) H)∧(¬ (1<=k∧k<=6)->E (.ref ad.BadKinds) none H)
theorem yX {f:Addr}{fd:FuncData}(F:Fun K "letters" "letters" gL f fd)(tt:Txt K mg ad)(C_looked_kinds:Cal P w K mg base (CX1 P w) "looked_kinds" 1 ["kinds"] (lT ad)):cO P w K mg base (CX1 P w) 2 f fd ["kinds"] (kT ad):=by
 refine F.okX zU (fun vs H Q E h=>?_) (fun cdv A outer s H vs Q E hr h=>?_)
 ·obtain ⟨k,rfl,_⟩:=h
  rfl
 ·obtain ⟨k,rfl,q,x⟩:=h
  have hs:sizeLine=16777216:=sizeLine_eq;refine ⟨_,(aB (eJ (aP C_looked_kinds hr jL (aA (pv 0) aD)))
   (aF (bD (bC jS (fS (by rfl) tt.g_LETTERS tt.r_LETTERS) bR (bJ (pv 0)))))),?_⟩
  (try rw [eF]);(try rw [cxK1])
  refine ⟨_,rfl,k,rfl,fun hk=>?_,x⟩;obtain ⟨kn,rfl⟩:∃ kn:Nat,k=(kn:Nat):=⟨k.toNat,by omega⟩;refine ⟨_,rfl,_,rfl,_,rfl,(by show 6<=sizeLine;omega),?_⟩;rw [Kb (by show kn<=6;omega)];exact q kn rfl ⟨by omega,by omega⟩
def uB (w:List Nat)(kn:Nat):Prop:=(1<=w.length∧w.length<=24)∧∀ c∈w,97<=c∧c<97+kn
def mM (ad:Adr):Sp:=fun vs H Q E=>∃ (w:List Nat) (k:Int),vs=[T w,.int k]∧w.length<=100000∧(¬ (1<=k∧k<=6)->E (.ref ad.BadKinds) none H) ∧
 ∀ kn:Nat,k=(kn:Nat)->(1<=kn∧kn<=6)->(uB w kn->Q .non H)∧(¬ uB w kn->E (.ref ad.BadWord) none H)
theorem Bq {f:Addr}{fd:FuncData}(F:Fun K "looked" "looked" iH f fd)(tt:Txt K mg ad)(C_looked_length:Cal P w K mg base (CX1 P w) "looked_length" 2 ["length", "kinds"] (zH ad))
  (C_letters:Cal P w K mg base (CX1 P w) "letters" 2 ["kinds"] (kT ad)):cO P w K mg base (CX1 P w) 3 f fd ["word", "kinds"] (mM ad):=by
 refine F.okX mY (fun vs H Q E h=>?_) (fun cdv A outer s H vs Q E hr h=>?_)
 ·obtain ⟨w,k,rfl,_⟩:=h
  rfl
 ·obtain ⟨w,k,rfl,hw,x1,q⟩:=h
  have hs:sizeLine=16777216:=sizeLine_eq;refine ⟨_,(aB (eJ (aP C_looked_length hr jL (aA (aN eT (by rfl) tt.b_len PySem.boot_len (aA (pv 0) aD)) (aA (pv 1) aD))))
   (aB (aJ (i:=2) mY.nd rfl (Or.inl rfl) (aP C_letters hr jL (aA (pv 1) aD)))
   (aF (cM PassesOwn.leaving rfl (yW (pv 0)) (bO (i:=3) mY.nd rfl (Or.inl rfl)) (aF (bX (aO wB (pv 3) (pv 2) (by with_unfolding_all rfl)) (aF (eM (E:=fun cls H'=>E cls none H') tt.x_BadWord rfl (fun _ _ _ _ _ _ _ I hx q=>gN I hx q) (aA (cH [97,32,119,111,114,100,32,104,97,115,32,108,101,116,116,101,114,115,32,111,102,32,105,116,115,32,107,105,110,100,115,32,97,108,111,110,101] (by decide +kernel)) aD))) aW)))))),?_⟩
  (try rw [eF]);(try rw [cxK1])
  refine ⟨_,rfl,_,rfl,(by omega),_,rfl,_,k,rfl,fun hk hn=>?_,x1,fun hk hn=>?_⟩
  rotate_left
  ·obtain ⟨kn,rfl⟩:∃ kn:Nat,k=(kn:Nat):=⟨k.toNat,by omega⟩
   exact (q kn rfl ⟨by omega,by omega⟩).2 fun z=>hn ⟨by have:=z.1;omega,by have:=z.1;omega⟩
  obtain ⟨kn,rfl⟩:∃ kn:Nat,k=(kn:Nat):=⟨k.toNat,by omega⟩;obtain ⟨q1,q2⟩:=q kn rfl ⟨by omega,by omega⟩;refine ⟨_,rfl,_,rfl,fun kn' ek hk'=>?_,fun z=>absurd hk z⟩;obtain rfl:kn=kn':=by omega
  refine ⟨_,rfl,_,rfl,?_⟩;refine Fg (l:=w) (fun i σ H2=>H=H2∧(∀ c∈w.take i,97<=c∧c<97+kn)∧∃ v,σ=[some (T w),some (.int (kn:Nat)),some (T (([97,98,99,100,101,102]:List Nat).take kn)),v]) ⟨rfl,fun c hc=>(by simp at hc),none,rfl⟩ ?_ ?_
  ·rintro i c σ H2 hi ⟨rfl,hall,v,rfl⟩
   refine ⟨_,rfl,_,rfl,_,rfl,_,rfl,_,rfl,?_⟩;refine gF (fun h0=>?_) (fun h0=>?_)
   ·have h1:¬ c∈([97,98,99,100,101,102]:List Nat).take kn:=fun z=>by
     rw [decide_eq_true z] at h0;cases h0
    refine ⟨(by show 1<=sizeLine;omega),q2 fun z=>h1 ?_⟩;exact (Ai (by omega)).mpr (z.2 c (List.mem_of_getElem? hi))
   ·have h1:c∈([97,98,99,100,101,102]:List Nat).take kn:=by
     apply Classical.byContradiction;intro z;rw [decide_eq_false z] at h0;exact h0 rfl
    refine ⟨rfl,fun d hd=>?_,_,rfl⟩;have hil:=(List.getElem?_eq_some_iff.mp hi).1;rw [List.take_add_one,hi] at hd;rcases List.mem_append.mp hd with z | z
    ·exact hall d z
    ·have:d=c:=by simpa using z
     subst this;exact (Ai (by omega)).mp h1
  ·rintro σ H2 ⟨rfl,hall,v,rfl⟩
   rw [List.take_length] at hall;exact q1 ⟨⟨by omega,by omega⟩,hall⟩
def pB (k:Nat)(ls:List (List Nat)):Prop:=∃ ps:List (List Nat),ps.length<=k∧∀ w∈ls,w.take (w.length-1)∈ps∧w.drop 1∈ps
def Few (ls:List (List Nat)):Prop:=pB 61 ls
theorem pB.sub {k:Nat}{ls ms:List (List Nat)}(h:pB k ls)(s:∀ w∈ms,w∈ls):pB k ms:=h.elim fun ps g=>⟨ps,g.1,fun w hw=>g.2 w (s w hw)⟩
theorem pB.len {k:Nat}{ls:List (List Nat)}(h:2*ls.length<=k):pB k ls:=⟨ls.map (fun w=>w.take (w.length-1))++ls.map (fun w=>w.drop 1),by rw [List.length_append,List.length_map,List.length_map];omega,fun w hw=>⟨List.mem_append.mpr (.inl (List.mem_map.mpr ⟨w,hw,rfl⟩)),List.mem_append.mpr (.inr (List.mem_map.mpr ⟨w,hw,rfl⟩))⟩⟩
theorem Gj {ls:List (List Nat)}(h:ls.Nodup):(uniq ls).length=ls.length:=((List.perm_ext_iff_of_nodup (kQ ls) h).mpr fun x=>gE ls x).length_eq
theorem Lm {H:Hp}{p x C dx:Addr}{fs:List (Str×V)}{xs:List V}{o:HO}(h:SqL K H p xs)(hx:H x=some (.ins C dx fs)):SqL K (upd H x o) p xs:=by
 rcases h with (h | ⟨q,h⟩) | h
 ·exact .inl (.inl (by rw [aH (fun z=>by subst z;rw [hx] at h;cases h)];exact h))
 ·exact .inl (.inr ⟨q,by rw [aH (fun z=>by subst z;rw [hx] at h;cases h)];exact h⟩)
 ·exact .inr h
def iB (ls:List (List Nat))(n:Nat):Prop:=ls≠[]∧ls.length<=63∧((1<=n∧n<=8)∧Few ls)∧(∀ x∈ls,x.length=n∧∀ c∈x,97<=c∧c<103)∧ls.Nodup
def xZ (K:PySem.W.Frag):Sp:=fun vs H Q _=>∃ (p:Addr) (ls:List (List Nat)) (n:Nat),vs=[.ref p]∧SqL K H p (ls.map T)∧iB ls n∧∀ H',aM H H'->Q .non H'
theorem rS {f:Addr}{fd:FuncData}(F:Fun K "looked_web" "looked_web" eZ f fd)(tt:Txt K mg ad)(C_looked:Cal P w K mg base (CX1 P w) "looked" 3 ["word", "kinds"] (mM ad)) :
  cO P w K mg base (CX1 P w) 4 f fd ["words"] (xZ K):=by
 refine F.okX kO (fun vs H Q E h=>?_) (fun cdv A outer s H vs Q E hr h=>?_)
 ·obtain ⟨p,ls,n,rfl,_⟩:=h
  rfl
 ·obtain ⟨p,ls,n,rfl,hS,⟨hne,h64,hn,hx,hnd⟩,q⟩:=h
  have hs:sizeLine=16777216:=sizeLine_eq;have hl0:0<ls.length:=List.length_pos_iff.mpr hne;obtain ⟨x0,hx0⟩:∃ x0,ls[0]?=some x0:=⟨_,List.getElem?_eq_getElem hl0⟩;have hx0l:=(hx x0 (List.mem_of_getElem? hx0)).1;refine ⟨_,(aB (bX (aO nJ (aN aY (by rfl) tt.b_len PySem.boot_len (aA (pv 0) aD)) (fS (by rfl) tt.g_MOST_OF_A_WEB tt.r_MOST_OF_A_WEB) (aZ _)) (aF (eM (E:=fun cls H'=>E cls none H') tt.x_TooMany rfl (fun _ _ _ _ _ _ _ I hx q=>gN I hx q) (aA (cH [97,32,119,101,98,32,104,97,115,32,97,116,32,109,111,115,116,32,54,52,32,119,111,114,100,115] (by decide +kernel)) aD))) aW)
   (aB (bX (aO eK (aN aY (by rfl) tt.b_len PySem.boot_len (aA (pv 0) aD)) aG (aZ _)) (aF (eM (E:=fun cls H'=>E cls none H') tt.x_BadWord rfl (fun _ _ _ _ _ _ _ I hx q=>gN I hx q) (aA (cH [97,32,119,101,98,32,104,97,115,32,97,116,32,108,101,97,115,116,32,111,110,101,32,119,111,114,100] (by decide +kernel)) aD))) aW)
   (aB (cM PassesOwn.leaving rfl (bW (pv 0)) (bO (i:=1) kO.nd rfl (Or.inl rfl)) (aB (eJ (aP C_looked hr jL (aA (pv 1) (aA (aN eT (by rfl) tt.b_len PySem.boot_len (aA (fS (by rfl) tt.g_LETTERS tt.r_LETTERS) aD)) aD))))
   (aB (bX (aO nJ (aN eT (by rfl) tt.b_len PySem.boot_len (aA (pv 1) aD)) (fS (by rfl) tt.g_LONGEST_OF_A_WEB tt.r_LONGEST_OF_A_WEB) (aZ _)) (aF (eM (E:=fun cls H'=>E cls none H') tt.x_BadWord rfl (fun _ _ _ _ _ _ _ I hx q=>gN I hx q) (aA (cH [97,32,119,111,114,100,32,111,102,32,97,32,119,101,98,32,104,97,115,32,97,116,32,109,111,115,116,32,56,32,108,101,116,116,101,114,115] (by decide +kernel)) aD))) aW)
   (aF (bX (aO oR (aN eT (by rfl) tt.b_len PySem.boot_len (aA (pv 1) aD)) (aN eT (by rfl) tt.b_len PySem.boot_len (aA (fV dQ (pv 0) aG (fun _ _=>rfl)) aD)) (aZ _)) (aF (eM (E:=fun cls H'=>E cls none H') tt.x_BadWord rfl (fun _ _ _ _ _ _ _ I hx q=>gN I hx q) (aA (cH [116,104,101,32,119,111,114,100,115,32,111,102,32,97,32,119,101,98,32,104,97,118,101,32,111,110,101,32,108,101,110,103,116,104] (by decide +kernel)) aD))) aW)))))
   (aF (bX (aO oR (aN Df (by rfl) tt.b_len PySem.boot_len (aA (dA (Cy rfl) (by rfl) tt.b_set (by decide +kernel) (aA (pv 0) aD)) aD)) (aN aY (by rfl) tt.b_len PySem.boot_len (aA (pv 0) aD)) (aZ _)) (aF (eM (E:=fun cls H'=>E cls none H') tt.x_BadWord rfl (fun _ _ _ _ _ _ _ I hx q=>gN I hx q) (aA (cH [97,32,119,111,114,100,32,115,116,97,110,100,115,32,105,110,32,97,32,119,101,98,32,111,110,99,101] (by decide +kernel)) aD))) aW))))),?_⟩
  (try rw [eF]);(try rw [cxK1])
  refine ⟨_,rfl,p,_,rfl,.inl hS,_,_,rfl,rfl,_,rfl,?_⟩;rw [List.length_map];refine gF (fun h0=>absurd (of_decide_eq_true h0) (by omega)) (fun _=>?_);refine ⟨_,rfl,p,_,rfl,.inl hS,_,rfl,_,rfl,_,rfl,?_⟩;rw [List.length_map];refine gF (fun h0=>absurd (of_decide_eq_true h0) (by omega)) (fun _=>?_);refine ⟨_,rfl,p,rfl,⟨_,hS⟩,?_⟩;refine cT (K:=K) (a:=p) (xs:=ls.map T) (fun i σ H2=>H2=H∧∃ v,σ=[some (.ref p),v]) ⟨rfl,none,rfl⟩ (fun i σ H2 _ h=>by rw [h.1];exact hS) ?_ ?_
  ·rintro i y σ H2 hi ⟨rfl,v,rfl⟩
   obtain ⟨x,hxi,rfl⟩:∃ x,ls[i]?=some x∧y=T x:=by
    rw [List.getElem?_map] at hi;obtain ⟨x,h1,h2⟩:=Option.map_eq_some_iff.mp hi;exact ⟨x,h1,h2.symm⟩
   obtain ⟨hxl,hxc⟩:=hx x (List.mem_of_getElem? hxi);have hg:∀ kn:Nat,(6:Int)=(kn:Nat)->uB x kn:=fun kn e=>⟨⟨by omega,by omega⟩,fun c hc=>by have:=hxc c hc;omega⟩
   refine ⟨_,rfl,_,rfl,(by show 6<=sizeLine;omega),x,6,rfl,(by omega),fun z=>absurd ⟨by decide,by decide⟩ z,fun kn ek hk=>⟨fun _=>?_,fun z=>absurd (hg kn ek) z⟩⟩;refine ⟨_,rfl,_,rfl,(by omega),_,_,rfl,rfl,_,rfl,?_⟩;refine gF (fun h0=>absurd (of_decide_eq_true h0) (by omega)) (fun _=>?_);refine ⟨_,rfl,_,rfl,(by omega),_,rfl,p,_,_,_,rfl,rfl,hS,dS (j:=0) (by rw [List.getElem?_map,hx0];rfl),_,rfl,(by omega),_,rfl,_,rfl,_,rfl,?_⟩;refine Ki (by rw [hxl,hx0l]) ?_;exact ⟨rfl,_,rfl⟩
  ·rintro σ H2 ⟨rfl,v,rfl⟩
   refine ⟨_,rfl,p,ls,rfl,hS,(by omega),fun D hD=>?_⟩;have sD:aM H2 (upd H2 D (Gv P w D (uniq ls))):=fun b o e=>by rw [aH (aK e hD)];exact e
   refine ⟨D,_,rfl,aC,_,rfl,p,_,rfl,.inl (sD.seq hS),_,rfl,_,rfl,_,rfl,?_⟩;refine Ki (by rw [List.length_map,Gj hnd]) ?_;exact q _ sD
def Ju (tp:Addr)(n:Int):List (Str×V):=iX "length" (.int n) (iX "words" (.ref tp) [])
theorem tV (tp:Addr)(n:Int):(Ju tp n).lookup ("words" : Str)=some (.ref tp):=by
 unfold Ju;rw [hG,if_neg (by decide +kernel),hG,if_pos rfl]
def yF (K:PySem.W.Frag)(C:Addr):Sp:=fun vs H Q _=>∃ (x dx p:Addr) (ls:List (List Nat)) (n:Nat),vs=[.ref x,.ref p]∧H x=some (.ins C dx [])∧SqL K H p (ls.map T)∧iB ls n ∧
 ∀ (tp:Addr) (ms:List (List Nat)) (H':Hp),ms.Perm ls->ms.Pairwise (fun a b=>¬ b<a)->(∀ b o,H b=some o->b≠x->H' b=some o)->H' x=some (.ins C dx (Ju tp (n:Nat)))->H' tp=some (.tup (ms.map T))->Q .non H'
theorem xN {f:Addr}{fd:FuncData}(F:Fun K "__init__" "Web.__init__" fY f fd)(tt:Txt K mg ad)(C_looked_web:Cal P w K mg base (CX1 P w) "looked_web" 4 ["words"] (xZ K)) :
  cO P w K mg base (CX1 P w) 5 f fd ["self", "words"] (yF K ad.Web):=by
 refine F.okX wU (fun vs H Q E h=>?_) (fun cdv A outer s H vs Q E hr h=>?_)
 ·obtain ⟨x,dx,p,ls,n,rfl,_⟩:=h
  rfl
 ·obtain ⟨x,dx,p,ls,n,rfl,hx,hS,hok,q⟩:=h
  have hs:sizeLine=16777216:=sizeLine_eq;obtain ⟨hne,h64,hn,hxs,hnd⟩:=id hok;have hl0:0<ls.length:=List.length_pos_iff.mpr hne;obtain ⟨x0,hx0⟩:∃ x0,ls[0]?=some x0:=⟨_,List.getElem?_eq_getElem hl0⟩;have hx0l:=(hxs x0 (List.mem_of_getElem? hx0)).1;refine ⟨_,(aB (eJ (aP C_looked_web hr jL (aA (pv 1) aD)))
   (aB (Fs (pv 0) (dA kJ (by rfl) tt.b_tuple (by decide +kernel) (aA (aN lM (by rfl) tt.b_sorted PyProof.Rows.boot_sorted (aA (pv 1) aD)) aD)) rfl)
   (aF (Fs (pv 0) (aN eT (by rfl) tt.b_len PySem.boot_len (aA (fV dQ (pv 1) aG (fun _ _=>rfl)) aD)) rfl)))),?_⟩
  (try rw [eF]);(try rw [cxK1])
  refine ⟨_,rfl,p,ls,n,rfl,hS,hok,fun H1 s1=>?_⟩;refine ⟨_,rfl,p,ls,rfl,s1.seq hS,(by omega),fun ms D hD hperm hpw=>?_⟩;have s2:aM H1 (upd H1 D (.lst (ms.map T))):=fun b o e=>by rw [aH (aK e hD)];exact e
  refine ⟨D,_,rfl,.inl ⟨SqL.of aC,fun tp htp=>?_⟩⟩;have s3:aM (upd H1 D (.lst (ms.map T))) (upd (upd H1 D (.lst (ms.map T))) tp (.tup (ms.map T))):=fun b o e=>by rw [aH (aK e htp)];exact e
  generalize hH3:upd (upd H1 D (.lst (ms.map T))) tp (.tup (ms.map T))=H3 at s3;have htp3:H3 tp=some (.tup (ms.map T)):=by rw [<- hH3];exact aC
  have s13:aM H H3:=s1.trans (s2.trans s3);have hx3:=s13 x _ hx;have hxt:tp≠x:=fun z=>by subst z;rw [htp3] at hx3;cases hx3
  refine ⟨_,rfl,x,ad.Web,dx,[],rfl,hx3,tt.cl_Web,tt.na_Web_words,(by show 0<1000;decide),?_⟩;have hS4:SqL K (upd H3 x (.ins ad.Web dx (iX "words" (.ref tp) []))) p (ls.map T):=Lm (s13.seq hS) hx3
  refine ⟨_,rfl,p,_,_,_,rfl,rfl,hS4,dS (j:=0) (by rw [List.getElem?_map,hx0];rfl),_,rfl,(by omega),_,rfl,x,ad.Web,dx,_,rfl,aC,tt.cl_Web,tt.na_Web_length,(by show 1<1000;decide),?_⟩;refine q tp ms _ hperm hpw (fun b o e hb=>?_) ?_ ?_
  ·rw [aH hb,aH hb]
   exact s13 b o e
  ·rw [aC,hx0l]
   rfl
  ·rw [aH hxt,aH hxt]
   exact htp3
def jO (C:Addr)(H:Hp)(x tp:Addr)(n:Nat)(ms:List (List Nat)):Prop:=(∃ dx,H x=some (.ins C dx (Ju tp (n:Nat))))∧H tp=some (.tup (ms.map T))
theorem jO.on {C:Addr}{H H':Hp}{x tp:Addr}{n:Nat}{ms:List (List Nat)}(h:jO C H x tp n ms)(s:aM H H'):jO C H' x tp n ms:=let ⟨⟨dx,e⟩,t⟩:=h;⟨⟨dx,s _ _ e⟩,s _ _ t⟩
def iO:Sp:=fun vs H Q _=>∃ t:List Nat,vs=[T t]∧(1<=t.length∧t.length<=1000)∧Q (T (t.take (t.length-1))) H
theorem iD {t:List Nat}(h:1<=t.length):gB t none (some (-1))=t.take (t.length-1):=by
 unfold gB;rw [HT.fB,List.drop_zero,Nat.sub_zero];show t.take (if (-1:Int)<0 then ((-1:Int)+(t.length:Int)).toNat else min (-1:Int).toNat t.length)=_;rw [if_pos (by decide),show ((-1:Int)+(t.length:Int)).toNat=t.length-1 by omega]
theorem vX {f:Addr}{fd:FuncData}(F:Fun K "begin_of" "begin_of" fX f fd)(tt:Txt K mg ad):cO P w K mg base (CX1 P w) 1 f fd ["word"] iO:=by
 refine F.okN xX (fun vs H Q E h=>?_) (fun cdv A outer s H vs Q E hr h=>?_)
 ·obtain ⟨t,rfl,_⟩:=h
  rfl
 ·obtain ⟨t,rfl,hl,q⟩:=h
  have hs:sizeLine=16777216:=sizeLine_eq;refine ⟨_,(aF (bD (bC jS (pv 0) bR (bJ (jF gQ aG))))),?_⟩
  (try rw [eF]);(try rw [cxK1])
  refine ⟨_,rfl,_,rfl,_,rfl,_,rfl,(by omega),?_⟩;rw [show -(1:Int) = -1 from rfl,iD hl.1];exact q
def xV:Sp:=fun vs H Q _=>∃ t:List Nat,vs=[T t]∧(1<=t.length∧t.length<=1000)∧Q (T (t.drop 1)) H
theorem Bz {f:Addr}{fd:FuncData}(F:Fun K "end_of" "end_of" iI f fd)(tt:Txt K mg ad):cO P w K mg base (CX1 P w) 1 f fd ["word"] xV:=by
 refine F.okN Cj (fun vs H Q E h=>?_) (fun cdv A outer s H vs Q E hr h=>?_)
 ·obtain ⟨t,rfl,_⟩:=h
  rfl
 ·obtain ⟨t,rfl,hl,q⟩:=h
  have hs:sizeLine=16777216:=sizeLine_eq;refine ⟨_,(aF (bD (bC jS (pv 0) (bJ aG) bR))),?_⟩
  (try rw [eF]);(try rw [cxK1])
  refine ⟨_,rfl,_,rfl,_,rfl,(by omega),?_⟩;have e:gB t (some 1) none=t.drop 1:=iE (k:=1) hl.1;rw [e];exact q
theorem aI {H:Hp}{D:Addr}{o:HO}(h:H D=none):aM H (upd H D o):=fun b u e=>by rw [aH (aK e h)];exact e
theorem Ex {H G:Hp}(s:aM H G):∃ H',H'=G∧aM H H':=⟨G,rfl,s⟩
theorem uT {H G:Hp}{D:Addr}{o:HO}(s:aM H (upd G D o)):∃ H',H'=upd G D o∧aM H H'∧H' D=some o:=⟨_,rfl,s,aC⟩
def beg (l:List Nat):List Nat:=l.take (l.length-1)
def Abc (x:List Nat):Prop:=∀ c∈x,97<=c∧c<103
theorem qI {t:List Nat}:∀ {ls:List (List Nat)},inV (T t) (ls.map T)=decide (t∈ls)
 | []=>by simp [inV]
 | l::ls=>by
  have ih:=@qI t ls;have e:inV (T t) ((l::ls).map T)=(eqV (T l) (T t)||inV (T t) (ls.map T)):=rfl;have e2:eqV (T l) (T t)=decide (t=l):=by
   show (tx l==tx t)=decide (t=l);rw [Bool.eq_iff_iff,beq_iff_eq,decide_eq_true_iff];exact ⟨fun h=>(fG h).symm,fun h=>by rw [h]⟩
  rw [e,ih,e2,Bool.eq_iff_iff,Bool.or_eq_true,decide_eq_true_iff,decide_eq_true_iff,decide_eq_true_iff,List.mem_cons]
theorem itP {c A B:Prop}[Decidable c](hc:c)(h:A):if c then A else B:=by rw [if_pos hc];exact h
theorem itN {c A B:Prop}[Decidable c](hc:¬ c)(h:B):if c then A else B:=by rw [if_neg hc];exact h
def IsP (ms:List (List Nat))(z:List Nat):Prop:=∃ w∈ms,z=beg w∨z=w.drop 1
theorem wD {k:Nat}{ls ps:List (List Nat)}{p:List Nat}(h:pB k ls)(hn:ps.Nodup)(hm:∀ z∈ps,z=p∨IsP ls z):ps.length<=k+1:=by
 obtain ⟨qs,h1,h2⟩:=h
 have:=Hg.uQ (ms:=p::qs) hn fun z hz=>by
  rcases hm z hz with rfl | ⟨w,hw,rfl | rfl⟩
  ·exact List.mem_cons_self ..
  ·exact List.mem_cons_of_mem _ (h2 w hw).1
  ·exact List.mem_cons_of_mem _ (h2 w hw).2
 rw [List.length_cons] at this;omega
theorem Ot {ls ps:List (List Nat)}{p:List Nat}(h:Few ls)(hn:ps.Nodup)(hm:∀ z∈ps,z=p∨IsP ls z):ps.length<64:=by
 have:=wD h hn hm
 omega
def qC (C:Addr):Sp:=fun vs H Q _=>∃ (x tp:Addr) (n:Nat) (ms:List (List Nat)),vs=[.ref x]∧jO C H x tp n ms∧iB ms n ∧
 ∀ (D:Addr) (ps:List (List Nat)) (H':Hp),H D=none->aM H H'->H' D=some (.lst (ps.map T))->ps.Pairwise (fun a b=>¬ b<a)->ps.Nodup->(∀ z,z∈ps↔IsP ms z)->Q (.ref D) H'
theorem Dr {f:Addr}{fd:FuncData}(F:Fun K "pieces" "pieces" gA f fd)(tt:Txt K mg ad)(C_begin_of:Cal P w K mg base (CX1 P w) "begin_of" 1 ["word"] iO)(C_end_of:Cal P w K mg base (CX1 P w) "end_of" 1 ["word"] xV) :
  cO P w K mg base (CX1 P w) 2 f fd ["web"] (qC ad.Web):=by
 refine F.okN Co (fun vs H Q E h=>?_) (fun cdv A outer s H vs Q E hr h=>?_)
 ·obtain ⟨x,tp,n,ms,rfl,_⟩:=h
  rfl
 ·obtain ⟨x,tp,n,ms,rfl,hW,hok,q⟩:=h
  have hs:sizeLine=16777216:=sizeLine_eq;obtain ⟨⟨dx,hx⟩,htp⟩:=id hW;obtain ⟨hne,h64,hn,hxs,hnd⟩:=id hok;have ulen:∀ ls:List (List Nat),(uniq ls).length<=ls.length:=fun ls=>jU ls _
  refine ⟨_,(aF (bD (aN (kN rfl) (by rfl) tt.b_sorted PyProof.Rows.boot_sorted (aA (aL My (dA (nB rfl) (by rfl) tt.b_set (by decide +kernel) (aA (eL xI rfl (zP (uH (pv 0) rfl)) (fun cl C s' H' fp=>(aP C_begin_of hr bL (aA (pv 0) aD)))) aD)) (dA (nB rfl) (by rfl) tt.b_set (by decide +kernel) (aA (eL wW rfl (zP (uH (pv 0) rfl)) (fun cl C s' H' fp=>(aP C_end_of hr bL (aA (pv 0) aD)))) aD))) aD)))),?_⟩
  (try rw [eF]);(try rw [cxK1])
  refine ⟨_,rfl,x,ad.Web,dx,_,_,rfl,hx,tt.cl_Web,tt.na_Web_words,tV _ _,tp,rfl,⟨_,SqT.of htp⟩,?_⟩;refine jA (fun v=>T (beg (unT v))) (jX (SqT.of htp)) (by rw [List.length_map];omega) (fun v H2 hv s2 N hN=>?_) fun D1 H2 hD1 s2 hd2=>?_
  ·obtain ⟨l,hl,rfl⟩:=List.mem_map.mp hv
   have hll:=(hxs l hl).1;have z:=hN H2 (aM.refl _);rw [fJ] at z;exact ⟨_,rfl,l,rfl,⟨by omega,by omega⟩,z⟩
  rw [gW (f:=fun l=>T (beg l)),show ms.map (fun l=>T (beg l))=(ms.map beg).map T by rw [List.map_map];rfl] at hd2;refine ⟨D1,ms.map beg,rfl,SqL.of hd2,(by rw [List.length_map];omega),fun S1 hS1=>?_⟩;have s3:=s2.trans (aI (o:=kG w S1 (uniq (ms.map beg))) hS1);have hd3:upd H2 S1 (kG w S1 (uniq (ms.map beg))) S1=some (kG w S1 (uniq (ms.map beg))):=aC;refine ⟨_,rfl,x,ad.Web,dx,_,_,rfl,s3 x _ hx,tt.cl_Web,tt.na_Web_words,tV _ _,tp,rfl,⟨_,SqT.of (s3 tp _ htp)⟩,?_⟩;refine jA (fun v=>T ((unT v).drop 1)) (jX (SqT.of (s3 tp _ htp))) (by rw [List.length_map];omega) (fun v H4 hv s4 N hN=>?_) fun D2 H4 hD2 s4 hd4=>?_
  ·obtain ⟨l,hl,rfl⟩:=List.mem_map.mp hv
   have hll:=(hxs l hl).1;have z:=hN H4 (aM.refl _);rw [fJ] at z;exact ⟨_,rfl,l,rfl,⟨by omega,by omega⟩,z⟩
  rw [gW (f:=fun l=>T (l.drop 1)),show ms.map (fun l=>T (l.drop 1))=(ms.map fun l=>l.drop 1).map T by rw [List.map_map];rfl] at hd4;refine ⟨D2,ms.map (fun l=>l.drop 1),rfl,SqL.of hd4,(by rw [List.length_map];omega),fun S2 hS2=>?_⟩;have s5:=aI (o:=kG w S2 (uniq (ms.map fun l=>l.drop 1))) hS2;have l1:=ulen (ms.map beg);have l2:=ulen (ms.map fun l=>l.drop 1);rw [List.length_map] at l1 l2;have hS1':=s5 S1 _ (s4 S1 _ hd3);have ne12:S1≠S2:=fun z=>by
   have g:=s4 S1 _ hd3;rw [z,hS2] at g;cases g
  refine ⟨S1,S2,_,_,rfl,rfl,ne12,hS1',aC,(fun z=>?_),(by omega),fun D5 qs hD5 hqn hql hqm=>?_⟩
  ·obtain ⟨m0,hm0⟩:∃ m0,m0∈ms:=List.exists_mem_of_ne_nil _ hne
   have:beg m0∈uniq (ms.map beg):=(gE _ _).mpr (List.mem_map_of_mem hm0)
   rw [z] at this;cases this
  have s6:=aI (o:=kG w D5 qs) hD5;refine ⟨D5,qs,rfl,aC,(Ot (p:=[]) hok.2.2.1.2 hqn fun z hz=>.inr ?few),fun ps D6 hD6 hp6 hw6=>?_⟩
  case few =>
   rw [hqm,gE,gE,List.mem_map,List.mem_map] at hz;rcases hz with ⟨l,hl,rfl⟩ | ⟨l,hl,rfl⟩
   ·exact ⟨l,hl,.inl rfl⟩
   ·exact ⟨l,hl,.inr rfl⟩
  have s7:=aI (o:=.lst (ps.map T)) hD6;have sall:=s3.trans (s4.trans (s5.trans (s6.trans s7)));have hD6':H D6=none:=by
   cases e:H D6 with
   | none=>rfl
   | some o =>
    have g:=(s3.trans (s4.trans (s5.trans s6))) D6 o e;exact absurd (g.symm.trans hD6) (fun z=>nomatch z)
  refine q D6 ps _ hD6' sall aC hw6 (hp6.nodup_iff.mpr hqn) fun z=>?_
  rw [hp6.mem_iff,hqm,gE,gE,List.mem_map,List.mem_map];constructor
  ·rintro (⟨l,hl,rfl⟩ | ⟨l,hl,rfl⟩)
   ·exact ⟨l,hl,.inl rfl⟩
   ·exact ⟨l,hl,.inr rfl⟩
  ·rintro ⟨l,hl,rfl | rfl⟩
   ·exact .inl ⟨l,hl,rfl⟩
   ·exact .inr ⟨l,hl,rfl⟩
theorem pU {xs:List V}{k:Nat}(h:k<=xs.length):eE xs (some (k:Int)) none=xs.drop k:=by
 unfold eE;rw [HT.fB,show HT.sIx xs.length 0 (some (k:Int))=min k xs.length from HT.fD _ _ k,Nat.min_eq_left h,List.take_of_length_le (by rw [List.length_drop];exact Nat.le_refl _)]
theorem Mq {xs:List V}{k:Nat}(h:k<=xs.length):eE xs none (some (k:Int))=xs.take k:=by
 unfold eE;rw [HT.fB,List.drop_zero,Nat.sub_zero,HT.fD,Nat.min_eq_left h]
theorem fL {i:Int}{n:Nat}(h:i.natAbs<=n)(hn:n<2 ^ 8000):Bg i:=Nat.lt_of_le_of_lt h hn
theorem iL {n k:Nat}(h:n<2 ^ k)(hk:k<=8000):n<2 ^ 8000:=Nat.lt_of_lt_of_le h (Nat.pow_le_pow_right (by decide) hk)
theorem jY {ns:List Int}{j:Nat}(h:j<ns.length):(ns.map V.int)[j]?=some (.int (ns.getD j 0)):=by
 rw [List.getElem?_map,List.getD_eq_getElem?_getD,List.getElem?_eq_getElem h];rfl
theorem SqL.keepTwo {K:PySem.W.Frag}{H G:Hp}{a:Addr}{xs:List V}(h:SqL K H a xs)(k:∀ o,H a=some o->G a=some o):SqL K G a xs:=by
 rcases h with (h | ⟨q,h⟩) | h
 ·exact .inl (.inl (k _ h))
 ·exact .inl (.inr ⟨q,k _ h⟩)
 ·exact .inr h
def uI:Sp:=fun vs H Q _=>∃ (num:Int) (pr:Nat),vs=[.int num,.int (pr:Nat)]∧Dt.dP pr∧pr<2 ^ 1000∧num % (pr:Int)≠0∧∀ inv:Int,Dt.Cg pr (inv*num) 1->0<=inv∧inv<pr->Q (.int inv) H
theorem yB {f:Addr}{fd:FuncData}(F:Fun K "inverse" "inverse" gK f fd)(tt:Txt K mg ad):cO P w K mg base (CX1 P w) 1 f fd ["number", "prime"] uI:=by
 refine F.okN cN (fun vs H Q E h=>?_) (fun cdv A outer s H vs Q E hr h=>?_)
 ·obtain ⟨num,pr,rfl,_⟩:=h
  rfl
 ·obtain ⟨num,pr,rfl,hp,hpl,h0,q⟩:=h
  have hp1:=hp.1;have hpos:(0:Int)<(pr:Int):=by omega
  have h8:=iL hpl (by decide);obtain ⟨r,hr'⟩:∃ r:Nat,num % (pr:Int)=r:=⟨(num % pr).toNat,by have:=Int.emod_nonneg num (show (pr:Int)≠0 by omega);omega⟩;have hrl:r<pr:=by have:=Int.emod_lt_of_pos num hpos;omega
  refine ⟨_,(aB (aJ (i:=2) cN.nd rfl (Or.inl rfl) (pv 1))
   (aB (aJ (i:=3) cN.nd rfl (Or.inl rfl) (aL cQ (pv 0) (pv 1)))
   (aB (aJ (i:=4) cN.nd rfl (Or.inl rfl) aG)
   (aB (aJ (i:=5) cN.nd rfl (Or.inl rfl) aG)
   (aB (jH PassesOwn.never (aO oR (pv 3) aG (aZ _)) (aB (aJ (i:=6) cN.nd rfl (Or.inl rfl) (aL Gw (pv 2) (pv 3)))
   (aB (aJ (i:=7) cN.nd rfl (Or.inl rfl) (aL gO (pv 2) (aL fQ (pv 6) (pv 3))))
   (aB (aJ (i:=2) cN.nd rfl (Or.inl rfl) (pv 3))
   (aB (aJ (i:=3) cN.nd rfl (Or.inl rfl) (pv 7))
   (aB (aJ (i:=8) cN.nd rfl (Or.inl rfl) (aL gO (pv 4) (aL fQ (pv 6) (pv 5))))
   (aB (aJ (i:=4) cN.nd rfl (Or.inl rfl) (pv 5))
   (aF (aJ (i:=5) cN.nd rfl (Or.inl rfl) (pv 8))))))))))
   (aF (bD (aL cQ (pv 5) (pv 1))))))))),?_⟩
  (try rw [eF]);(try rw [cxK1])
  refine ⟨_,rfl,?_⟩;refine ⟨_,rfl,_,rfl,_,_,rfl,rfl,hpos,?_⟩;refine ⟨fun m σ H2=>H2=H∧∃ (last rest:Nat) (lt t:Int) (v6 v7 v8:Option V),m=rest∧Dt.Euc pr num last rest lt t∧(last<=pr∧rest<=pr)∧σ=[some (.int num),some (.int (pr:Nat)),some (.int (last:Nat)),some (.int (rest:Nat)),some (.int lt),some (.int t),v6,v7,v8],
   ⟨_,rfl,pr,r,0,1,none,none,none,rfl,Dt.Euc.init hp hr' (by omega),⟨Nat.le_refl _,by omega⟩,by rw [<- hr'];rfl⟩,?_⟩
  rintro m σ H2 ⟨rfl,last,rest,lt,t,v6,v7,v8,rfl,he,⟨hl,hrp⟩,rfl⟩;have hpo:=he.pos;obtain ⟨ht,hlt⟩:=he.tle;refine ⟨_,rfl,_,rfl,_,rfl,_,rfl,?_⟩;by_cases h1:m=1
  ·refine itN (by rw [decide_eq_true (by omega)];exact Bool.false_ne_true) ?_
   exact ⟨_,rfl,_,rfl,_,_,rfl,rfl,hpos,q _ (he.fin h1) ⟨Int.emod_nonneg _ (by omega),Int.emod_lt_of_pos _ hpos⟩⟩
  ·refine itP (by rw [decide_eq_false (by omega)];rfl) ?_
   refine ⟨_,fun σ' H' z=>z,?_⟩;have hq1:=Nat.div_le_self last m;have bm:Bg ((m:Nat):Int):=fL (n:=pr) (by rw [Int.natAbs_natCast];exact hrp) h8;have bq:Bg ((last/m:Nat):Int):=fL (n:=pr) (by rw [Int.natAbs_natCast];omega) h8;refine ⟨_,rfl,_,rfl,_,_,rfl,rfl,⟨by show (0:Int)<(m:Int);omega,bm⟩,?_⟩;refine ⟨_,rfl,_,rfl,_,rfl,_,_,rfl,rfl,⟨bq,bm⟩,_,_,rfl,rfl,?_⟩;have e1:((last:Nat):Int)-((last/m:Nat):Int)*((m:Nat):Int)=((last % m:Nat):Int):=by
    have h:=congrArg (fun n:Nat=>(n:Int)) (Nat.div_add_mod last m);simp only [Int.natCast_add,Int.natCast_mul] at h;rw [Int.mul_comm] at h;omega
   refine ⟨_,rfl,?_⟩;refine ⟨_,rfl,?_⟩;refine ⟨_,rfl,_,rfl,_,rfl,_,_,rfl,rfl,⟨bq,fL ht h8⟩,_,_,rfl,rfl,?_⟩;refine ⟨_,rfl,?_⟩;refine ⟨_,rfl,?_⟩;have hml:=Nat.mod_lt last (show m>0 by omega);exact ⟨last % m,hml,rfl,m,last % m,t,_,_,_,_,rfl,he.step h1,⟨hrp,by omega⟩,by rw [<- e1];rfl⟩
def low (back:Int)(pr:Nat)(top row:List Int):List Int:=List.zipWith (fun x y=>x-row.getD 0 0*back % (pr:Int)*y) (row.drop 1) (top.drop 1)
set_option genInjectivity false in
structure wJ (back:Int)(pr n:Nat)(top row:List Int):Prop where
 l1:row.length=n+1
 l2:top.length=n+1
 sz:n<=1000
 pos:0<pr
 ps:pr<2 ^ 1000
 b0:Bg (row.getD 0 0)
 bk:back.natAbs<=pr
 tp:∀ y∈top,y.natAbs<=pr
def Hm (K:PySem.W.Frag):Sp:=fun vs H Q _=>∃ (a b:Addr) (back:Int) (pr n:Nat) (row top:List Int),vs=[.ref a,.ref b,.int back,.int (pr:Nat)]∧SqL K H a (row.map V.int)∧SqL K H b (top.map V.int)∧wJ back pr n top row∧∀ D H',H D=none->aM H H'->H' D=some (.lst ((low back pr top row).map V.int))->Q (.ref D) H'
theorem zB {f:Addr}{fd:FuncData}(F:Fun K "lowered" "lowered" fW f fd)(tt:Txt K mg ad):cO P w K mg base (CX1 P w) 1 f fd ["row", "top", "back", "prime"] (Hm K):=by
 refine F.okN oX (fun vs H Q E h=>?_) (fun cdv A outer s H vs Q E hr h=>?_)
 ·obtain ⟨a,b,back,pr,n,row,top,rfl,_⟩:=h
  rfl
 ·obtain ⟨a,b,back,pr,n,row,top,rfl,hA,hB,ok,q⟩:=h
  have hs:sizeLine=16777216:=sizeLine_eq;obtain ⟨l1,l2,sz,pos,ps,b0,bk,tp⟩:=ok;have hpos:(0:Int)<(pr:Int):=by omega
  have h8:=iL ps (by decide);have t0:=Int.emod_nonneg (row.getD 0 0*back) (show (pr:Int)≠0 by omega);have t1:=Int.emod_lt_of_pos (row.getD 0 0*back) hpos;refine ⟨_,(aB (aJ (i:=4) oX.nd rfl (Or.inr rfl) (aL cQ (aL fQ (fV dQ (pv 0) aG (fun _ _=>rfl)) (pv 2)) (pv 3)))
   (aB (bX (aO eK (pv 4) aG (aZ _)) (aF (bD (bC eX (pv 0) (bJ aG) bR))) aW)
   (aF (bD (Gn vT rfl (Ls (by rfl) tt.b_zip (aA (bC eX (pv 0) (bJ aG) bR) (aA (bC eX (pv 1) (bJ aG) bR) aD))) (fun cl C s' H' fp=>(aL gO (pv 0) (aL fQ (pv 6) (pv 1))))))))),?_⟩
  (try rw [eF]);(try rw [cxK1])
  refine ⟨_,rfl,a,_,_,_,rfl,rfl,hA,dS (j:=0) (jY (by omega)),_,rfl,_,_,rfl,rfl,⟨b0,fL bk h8⟩,_,rfl,_,_,rfl,rfl,hpos,?_⟩;refine ⟨_,rfl,_,rfl,_,rfl,_,rfl,?_⟩;have cA:eE (row.map V.int) (some (1:Int)) none=(row.drop 1).map V.int:=by rw [List.map_drop];exact pU (k:=1) (by rw [List.length_map];omega)
  have cB:eE (top.map V.int) (some (1:Int)) none=(top.drop 1).map V.int:=by rw [List.map_drop];exact pU (k:=1) (by rw [List.length_map];omega)
  by_cases hz:row.getD 0 0*back % (pr:Int)=0
  ·refine itP (decide_eq_true hz) ?_
   refine ⟨_,rfl,_,rfl,a,_,rfl,hA,fun p hp=>?_⟩;rw [cA];refine q p _ hp (aI hp) ?_;rw [aC]
   congr 3
   unfold low;rw [hz];refine List.ext_getElem? fun i=>?_
   rw [List.getElem?_zipWith];by_cases hi:i<n
   ·rw [List.getElem?_eq_getElem (l:=row.drop 1) (by rw [List.length_drop];omega),List.getElem?_eq_getElem (l:=top.drop 1) (by rw [List.length_drop];omega)]
    show some _=some _;rw [Int.zero_mul,Int.sub_zero]
   ·rw [List.getElem?_eq_none (by rw [List.length_drop];omega)]
  ·refine itN (fun z=>hz (of_decide_eq_true z)) ?_
   refine ⟨_,rfl,_,rfl,a,_,rfl,hA,fun p1 hp1=>?_⟩;rw [cA];have t1':=aI (o:=.lst ((row.drop 1).map V.int)) hp1;refine ⟨_,rfl,_,rfl,b,_,rfl,t1'.seq hB,fun p2 hp2=>?_⟩;rw [cB];have t2':=aI (o:=.lst ((top.drop 1).map V.int)) hp2;refine ⟨p1,p2,rfl,⟨_,SqL.of (t2' p1 _ aC)⟩,⟨_,SqL.of aC⟩,?_⟩;refine Hx (fun x y=>match x,y with | .int i,.int j=>.int (i-row.getD 0 0*back % (pr:Int)*j) | _,_=>.non) (SqL.of (t2' p1 _ aC)) (SqL.of aC) (by rw [List.length_map,List.length_map,List.length_drop,List.length_drop,l1,l2]) (by rw [List.length_map,List.length_drop];omega) (fun i x y H' hx hy s' N hN=>?_) fun D H' hD s' hd=>?_
   ·rw [List.getElem?_map] at hx hy
    obtain ⟨i1,hi1,rfl⟩:=Option.map_eq_some_iff.mp hx;obtain ⟨j1,hj1,rfl⟩:=Option.map_eq_some_iff.mp hy;have hj2:=tp j1 (List.mem_of_mem_drop (List.mem_of_getElem? hj1));exact ⟨_,rfl,_,rfl,_,rfl,_,_,rfl,rfl,⟨fL (n:=pr) (by omega) h8,fL hj2 h8⟩,_,_,rfl,rfl,hN H' (aM.refl _)⟩
   ·have hD0:H D=none:=by
     cases e:H D with
     | none=>rfl
     | some o=>have:=(t1'.trans t2') D o e;rw [hD] at this;cases this
    refine q D H' hD0 (t1'.trans (t2'.trans s')) ?_;rw [hd]
    congr 3
    unfold low;rw [List.zipWith_map,List.map_zipWith]
def tQ (K:PySem.W.Frag):Sp:=fun vs H Q _=>∃ (a:Addr) (ns:List Int),vs=[.ref a]∧SqL K H a (ns.map V.int)∧(∀ H',aM H H'->(∀ x∈ns,x=0)->Q .non H')∧∀ (p:Nat) (H':Hp),aM H H'->p<ns.length->ns.getD p 0≠0->Q (.int (p:Nat)) H'
theorem gS {f:Addr}{fd:FuncData}(F:Fun K "first_other_than_nought" "first_other_than_nought" bI f fd)(tt:Txt K mg ad):cO P w K mg base (CX1 P w) 1 f fd ["numbers"] (tQ K):=by
 refine F.okN cY (fun vs H Q E h=>?_) (fun cdv A outer s H vs Q E hr h=>?_)
 ·obtain ⟨a,ns,rfl,_⟩:=h
  rfl
 ·obtain ⟨a,ns,rfl,hA,q0,q1⟩:=h
  refine ⟨_,(aB (cM PassesOwn.never rfl (Ib (by rfl) tt.b_enumerate (aA (pv 0) aD)) (zG rfl (iC (bO (i:=1) cY.nd rfl (Or.inl rfl)) (iC (bO (i:=2) cY.nd rfl (Or.inl rfl)) vK))) (aF (bX (aO oR (pv 2) aG (aZ _)) (aF (bD (pv 1))) aW)))
   (aF (bD Gu))),?_⟩
  (try rw [eF]);(try rw [cxK1])
  refine ⟨_,rfl,a,rfl,⟨_,hA⟩,?_⟩;refine Gk (K:=K) (a:=a) (xs:=ns.map V.int) (fun i σ H2=>aM H H2∧(∀ j,j<i->ns.getD j 0=0)∧∃ v1 v2:Option V,σ=[some (.ref a),v1,v2]) ⟨aM.refl _,fun j hj=>absurd hj (Nat.not_lt_zero j),none,none,rfl⟩ (fun i σ H2 _ h=>h.1.seq hA) ?_ ?_
  ·rintro i x p σ H2 hx hp ⟨s2,hz,v1,v2,rfl⟩
   have hi:i<ns.length:=by have:=(List.getElem?_eq_some_iff.mp hx).1;rwa [List.length_map] at this
   rw [jY hi] at hx;obtain rfl:=Option.some.inj hx;have t2:=aI (o:=.tup [.int (i:Nat),.int (ns.getD i 0)]) hp;refine ⟨p,_,rfl,SqT.of aC,rfl,_,_,rfl,_,_,rfl,rfl,?_⟩;refine ⟨_,rfl,_,rfl,_,rfl,_,rfl,?_⟩;by_cases h0:ns.getD i 0=0
   ·refine itN (by rw [decide_eq_true h0];exact Bool.false_ne_true) ?_
    exact ⟨s2.trans t2,fun j hj=>by
     rcases Nat.lt_or_ge j i with z | z
     ·exact hz j z
     ·rw [show j=i by omega];exact h0,_,_,rfl⟩
   ·refine itP (by rw [decide_eq_false h0];rfl) ?_
    exact ⟨_,rfl,q1 i _ (s2.trans t2) hi h0⟩
  ·rintro σ H2 ⟨s2,hz,v1,v2,rfl⟩
   rw [List.length_map] at hz;exact q0 H2 s2 fun x hx=>by
    obtain ⟨j,hj⟩:=List.getElem?_of_mem hx;have hjl:=(List.getElem?_eq_some_iff.mp hj).1
    have:=hz j hjl
    rwa [List.getD_eq_getElem?_getD,hj] at this
set_option genInjectivity false in
structure Fr (M:List (List Int))(n pr E:Nat):Prop where
 len:M.length=n
 row:∀ r∈M,r.length=n
 sz:n<=100
 pm:Dt.dP pr
 ps:pr<2 ^ 1000
 be:∀ r∈M,∀ x∈r,x.natAbs<=E
 bd:E+n*(pr*pr)<2 ^ 8000
def yG (K:PySem.W.Frag):Sp:=fun vs H Q _=>∃ (a:Addr) (as:List Addr) (M:List (List Int)) (n pr E:Nat),vs=[.ref a,.int (pr:Nat)]∧SqL K H a (as.map V.ref)∧dR K H as M∧Fr M n pr E∧∀ (r:Int) (H':Hp),aM H H'->0<=r∧r<pr->Dt.Cg pr r (Dt.det n (Dt.ent M))->Q (.int r) H'
theorem lN {ns:List Int}{j:Nat}(h:j<ns.length):ns.getD j 0∈ns:=by
 rw [List.getD_eq_getElem?_getD,List.getElem?_eq_getElem h];exact List.getElem_mem h
theorem Bl {back:Int}{pr n:Nat}{top row:List Int}(h:wJ back pr n top row):(low back pr top row).length=n:=by
 unfold low
 have:=h.l1
 have:=h.l2
 rw [List.length_zipWith,List.length_drop,List.length_drop];omega
theorem Be {back:Int}{pr n:Nat}{top row:List Int}(h:wJ back pr n top row){k:Nat}(hk:k<n):(low back pr top row).getD k 0=row.getD (k+1) 0-row.getD 0 0*back % (pr:Int)*top.getD (k+1) 0:=by
 have h1:=h.l1;have h2:=h.l2;unfold low;rw [List.getD_eq_getElem?_getD,List.getElem?_zipWith,List.getElem?_drop,List.getElem?_drop,Nat.add_comm 1 k,List.getElem?_eq_getElem (show k+1<row.length by omega),List.getElem?_eq_getElem (show k+1<top.length by omega),List.getD_eq_getElem?_getD (l:=row) (i:=k+1),List.getElem?_eq_getElem (show k+1<row.length by omega),List.getD_eq_getElem?_getD (l:=top),List.getElem?_eq_getElem (show k+1<top.length by omega)];rfl
theorem Ic {back:Int}{pr n E:Nat}{top row:List Int}(h:wJ back pr n top row)(hE:∀ x∈row,x.natAbs<=E):∀ x∈low back pr top row,x.natAbs<=E+pr*pr:=fun x hx=>by
 obtain ⟨k,hk⟩:=List.getElem?_of_mem hx;have hkl:=(List.getElem?_eq_some_iff.mp hk).1;rw [Bl h] at hkl;have h1:=h.l1;have h2:=h.l2;have e:=Be h hkl;rw [List.getD_eq_getElem?_getD,hk] at e;have e:x=_:=e;have b1:=hE _ (lN (ns:=row) (j:=k+1) (by omega));have b2:=h.tp _ (lN (ns:=top) (j:=k+1) (by omega));have hp:=h.pos;have t0:=Int.emod_nonneg (row.getD 0 0*back) (show (pr:Int)≠0 by omega);have t1:=Int.emod_lt_of_pos (row.getD 0 0*back) (show (0:Int)<pr by omega);have b3:=Int.natAbs_sub_le (row.getD (k+1) 0) (row.getD 0 0*back % (pr:Int)*top.getD (k+1) 0);rw [Int.natAbs_mul] at b3;have b4:(row.getD 0 0*back % (pr:Int)).natAbs*(top.getD (k+1) 0).natAbs<=pr*pr:=Nat.mul_le_mul (by omega) b2;rw [e];omega
theorem kH {f:Addr}{fd:FuncData}(F:Fun K "determinant_rest" "determinant_rest" bK f fd)(tt:Txt K mg ad)(C_first_other_than_nought:Cal P w K mg base (CX1 P w) "first_other_than_nought" 1 ["numbers"] (tQ K))(C_inverse:Cal P w K mg base (CX1 P w) "inverse" 1 ["number", "prime"] uI)(C_lowered:Cal P w K mg base (CX1 P w) "lowered" 1 ["row", "top", "back", "prime"] (Hm K)):cO P w K mg base (CX1 P w) 2 f fd ["square", "prime"] (yG K):=by
 refine F.okN bF (fun vs H Q E h=>?_) (fun cdv A outer s H vs Q E hr h=>?_)
 ·obtain ⟨a,as,M,n,pr,E0,rfl,_⟩:=h
  rfl
 ·obtain ⟨a,as,M,n,pr,B,rfl,hA,hR,ok,q⟩:=h
  have hs:sizeLine=16777216:=sizeLine_eq;have hu:=Nat.lt_of_succ_lt (fO hr);obtain ⟨len,row,sz,pm,ps,be,bd⟩:=ok;have hp1:=pm.1;have hpos:(0:Int)<(pr:Int):=by omega
  have h8:=iL ps (by decide);refine ⟨_,(aB (aJ (i:=2) bF.nd rfl (Or.inl rfl) (dA mC (by rfl) tt.b_list (by decide +kernel) (aA (pv 0) aD)))
   (aB (aJ (i:=3) bF.nd rfl (Or.inl rfl) aG)
   (aB (jH PassesOwn.never (aO (Eo K rfl hu) (pv 2) (cU aD) (aZ _)) (aB (aJ (i:=4) bF.nd rfl (Or.inl rfl) (aP C_first_other_than_nought hr bL (aA (eL jC rfl (bW (pv 2)) (fun cl C s' H' fp=>(aL cQ (fV (Ck K rfl) (pv 0) aG (fun _ _=>rfl)) (pv 2)))) aD)))
   (aB (bX (qB (Mz (pv 4))) (aF (bD aG)) aW)
   (aB (aJ (i:=5) bF.nd rfl (Or.inr rfl) (eL jD rfl (bW (fV dQ (pv 2) (pv 4) (fun _ _=>rfl))) (fun cl C s' H' fp=>(aL cQ (pv 0) (pv 2)))))
   (aB (aJ (i:=6) bF.nd rfl (Or.inr rfl) (aP C_inverse hr bL (aA (fV dQ (pv 5) aG (fun _ _=>rfl)) (aA (pv 1) aD))))
   (aB (aJ (i:=3) bF.nd rfl (Or.inl rfl) (aL cQ (aL fQ (pv 3) (fV dQ (pv 5) aG (fun _ _=>rfl))) (pv 1)))
   (aB (No (t':=(fun D σ H=>∃ (x0 x2:V) (pr:Nat) (rst:Int) (p:Nat) (v5 v6:Option V),σ=[some x0,some (.int (pr:Nat)),some x2,some (.int rst),some (.int (p:Nat)),v5,v6]∧D.nx [some x0,some (.int (pr:Nat)),some x2,some (.int (if p % 2=1 then (pr:Int)-rst else rst)),some (.int (p:Nat)),v5,v6] H)) (bX (aO eK (aL cQ (pv 4) aG) aG (aZ _)) (aF (aJ (i:=3) bF.nd rfl (Or.inl rfl) (aL gO (pv 1) (pv 3)))) aW) ?rA)
   (aF (zC (i:=2) jB rfl (bW (aL jZ (bC eX (pv 2) bR (bJ (pv 4))) (bC eX (pv 2) (bJ (aL dE (pv 4) aG)) bR))) (fun cl C s' H' fp=>(aP C_lowered hr bL (aA (pv 0) (aA (pv 6) (aA (pv 7) (aA (pv 2) aD)))))) bF.nd rfl rfl)))))))))
   (aF (bD (pv 3)))))),?_⟩
  (try rw [eF]);(try rw [cxK1])
  case rA =>
   rintro D σ H ⟨x0,x2,pr,rst,p,v5,v6,rfl,nxt⟩;refine ⟨_,rfl,_,_,rfl,rfl,(by show (0:Int)<2;decide),_,rfl,_,rfl,_,rfl,?_⟩;by_cases h2:p % 2=1
   ·refine itP (decide_eq_true (by omega)) ?_
    refine ⟨_,rfl,_,rfl,_,_,rfl,rfl,?_⟩;rw [if_pos h2] at nxt;exact nxt
   ·refine itN (fun z=>h2 (by have:=of_decide_eq_true z;omega)) ?_
    rw [if_neg h2] at nxt;exact nxt
  refine ⟨_,rfl,a,_,rfl,.inl hA,fun L0 hL0=>?_⟩;have t0:=aI (o:=.lst (as.map V.ref)) hL0;refine ⟨fun m σ G=>∃ (Lr:Addr) (bs:List Addr) (N:List (List Int)) (k:Nat) (rest:Int) (v4 v5 v6:Option V),aM H G∧G Lr=some (.lst (bs.map V.ref))∧dR K G bs N∧N.length=m∧(∀ r∈N,r.length=m)∧m+k=n∧(∀ r∈N,∀ x∈r,x.natAbs<=B+k*(pr*pr))∧(0<rest∧rest<pr)∧Dt.Cg pr (rest*Dt.det m (Dt.ent N)) (Dt.det n (Dt.ent M))∧σ=[some (.ref a),some (.int (pr:Nat)),some (.ref Lr),some (.int rest),v4,v5,v6],
   ⟨n,L0,as,M,0,1,none,none,none,t0,aC,hR.on t0,len,row,by omega,fun r hr x hx=>by rw [Nat.zero_mul];exact be r hr x hx,⟨by decide,by omega⟩,by rw [Int.one_mul];exact Dt.Cg.refl _,rfl⟩,?_⟩
  rintro m σ G ⟨Lr,bs,N,k,rest,v4,v5,v6,sG,hL,hN,hNl,hNr,hmk,hNb,hrest,hcg,rfl⟩;have hbl:=hN.1;refine ⟨_,rfl,(by show 0<=sizeLine;omega),fun E1 hE1=>?_⟩;have tE:=aI (o:=.lst []) hE1;refine ⟨Lr,E1,_,rfl,rfl,SqL.of (tE Lr _ hL),SqL.of aC,_,rfl,?_⟩
  cases m with
  | zero =>
   obtain rfl:bs=[]:=List.length_eq_zero_iff.mp (by omega);refine vG ?_;refine ⟨_,rfl,q rest _ (sG.trans tE) ⟨by omega,hrest.2⟩ ?_⟩;have e:rest*Dt.det 0 (Dt.ent N)=rest:=Int.mul_one rest;rw [e] at hcg;exact hcg
  | succ m =>
   refine itP (by cases bs with | nil=>rw [List.length_nil] at hbl;omega | cons y r=>rfl) ?_;refine ⟨_,fun σ' H' z=>z,?_⟩;have hL2:=tE Lr _ hL;have hN2:=hN.on tE;generalize upd G E1 (.lst [])=G2 at tE hL2 hN2;refine ⟨_,rfl,Lr,rfl,⟨_,SqL.of hL2⟩,?_⟩;refine Nx (fun r=>r.getD 0 0 % (pr:Int)) (cW (SqL.of hL2)) hN2 (by omega) (fun a' r G' hrm hS s' N' hN'=>?_) fun D1 G3 hD1 s3 hd3=>?_
   ·exact ⟨_,rfl,a',_,_,_,rfl,rfl,hS,dS (j:=0) (jY (by rw [hNr r hrm];omega)),_,rfl,_,_,rfl,rfl,hpos,hN' G' (aM.refl _)⟩
   have hL3:=s3 Lr _ hL2;have hN3:=hN2.on s3;have sG3:=sG.trans (tE.trans s3);refine ⟨D1,_,rfl,SqL.of hd3,fun G4 s4 hall=>?_,fun p G4 s4 hp hne=>?_⟩
   ·refine ⟨_,rfl,_,rfl,wF ?_⟩
    refine q 0 G4 (sG3.trans s4) ⟨Int.le_refl _,hpos⟩ ?_;have h0:=Dt.Pp (m:=pr) (M:=N) (n:=m) (fun r hrm=>Int.dvd_of_emod_eq_zero (hall _ (List.mem_map.mpr ⟨r,hrm,rfl⟩))) hNl;have h1:=(Dt.Cg.refl (m:=pr) rest).mul h0;rw [Int.mul_zero] at h1;exact h1.symm.trans hcg
   ·rw [List.length_map] at hp
    obtain ⟨rp,hrp⟩:∃ rp,N[p]?=some rp:=⟨_,List.getElem?_eq_getElem hp⟩;obtain ⟨bp,hbp⟩:∃ bp,bs[p]?=some bp:=⟨_,List.getElem?_eq_getElem (by omega)⟩;have hrpm:=List.mem_of_getElem? hrp;have hrl:=hNr rp hrpm;have hne2:rp.getD 0 0 % (pr:Int)≠0:=by
     rw [List.getD_eq_getElem?_getD,List.getElem?_map,hrp] at hne;exact hne
    refine ⟨_,rfl,_,rfl,vG ?_⟩;have hL4:=s4 Lr _ hL3;have hN4:=hN3.on s4;have hS4:=hN4.2 p bp rp hbp hrp;refine ⟨_,rfl,_,rfl,Lr,_,_,_,rfl,rfl,SqL.of hL4,dS (j:=p) (by rw [List.getElem?_map,hbp];rfl),bp,rfl,⟨_,hS4⟩,?_⟩;refine jA (fun v=>match v with | .int i=>.int (i % (pr:Int)) | _=>.non) (cW hS4) (by rw [List.length_map];omega) (fun v G' hv s' N' hN'=>?_) fun D2 G5 hD2 s5 hd5=>?_
    ·obtain ⟨i,hi,rfl⟩:=List.mem_map.mp hv
     exact ⟨_,rfl,_,rfl,_,_,rfl,rfl,hpos,hN' G' (aM.refl _)⟩
    have hd5:G5 D2=some (.lst ((rp.map fun i=>i % (pr:Int)).map V.int)):=by rw [hd5,List.map_map,List.map_map];rfl
    have htl:(rp.map fun i=>i % (pr:Int)).length=m+1:=by rw [List.length_map,hrl]
    have htop:∀ k,k<m+1->(rp.map fun i=>i % (pr:Int)).getD k 0=rp.getD k 0 % (pr:Int):=fun k hk=>by
     rw [List.getD_eq_getElem?_getD,List.getElem?_map,List.getD_eq_getElem?_getD,List.getElem?_eq_getElem (by omega)];rfl
    have htb:∀ y∈rp.map (fun i=>i % (pr:Int)),y.natAbs<=pr:=fun y hy=>by
     obtain ⟨i,_,rfl⟩:=List.mem_map.mp hy
     have:=Int.emod_nonneg i (show (pr:Int)≠0 by omega)
     have:=Int.emod_lt_of_pos i hpos
     omega
    have ht0:(rp.map fun i=>i % (pr:Int)).getD 0 0 % (pr:Int)≠0:=by rw [htop 0 (by omega),Int.emod_emod];exact hne2
    have htc:∀ k,k<m+1->Dt.Cg pr ((rp.map fun i=>i % (pr:Int)).getD k 0) ((N.getD p []).getD k 0):=fun k hk=>by
     rw [htop k hk,List.getD_eq_getElem?_getD (l:=N),hrp];exact Dt.mE _
    generalize rp.map (fun i=>i % (pr:Int))=top at hd5 htl htop htb ht0 htc;have sG5:=sG3.trans (s4.trans s5);have hL5:=s5 Lr _ hL4;have hN5:=hN4.on s5;refine ⟨_,rfl,D2,_,_,_,rfl,rfl,SqL.of hd5,dS (j:=0) (jY (by omega)),_,rfl,top.getD 0 0,pr,rfl,pm,ps,ht0,fun inv hinv hib=>?_⟩;have ht0b:=htb _ (lN (ns:=top) (j:=0) (by omega));refine ⟨_,rfl,_,rfl,D2,_,_,_,rfl,rfl,SqL.of hd5,dS (j:=0) (jY (by omega)),_,_,rfl,rfl,⟨fL (n:=pr) (by omega) h8,fL ht0b h8⟩,_,rfl,_,_,rfl,rfl,hpos,?_⟩;refine ⟨_,_,pr,_,p,_,_,rfl,?_⟩;have hpl:p<=bs.length:=by omega
    have c1:eE (bs.map V.ref) none (some ((p:Nat):Int))=(bs.take p).map V.ref:=by rw [List.map_take];exact Mq (by rw [List.length_map];omega)
    have c2:eE (bs.map V.ref) (some ((p:Nat)+1:Int)) none=(bs.drop (p+1)).map V.ref:=by rw [List.map_drop];exact pU (k:=p+1) (by rw [List.length_map];omega)
    refine ⟨_,rfl,_,rfl,_,rfl,Lr,_,rfl,SqL.of hL5,fun p1 hp1=>?_⟩;rw [c1];have u1:=aI (o:=.lst ((bs.take p).map V.ref)) hp1;refine ⟨_,rfl,_,rfl,_,_,rfl,rfl,_,rfl,Lr,_,rfl,SqL.of (u1 Lr _ hL5),fun p2 hp2=>?_⟩;rw [c2];have u2:=aI (o:=.lst ((bs.drop (p+1)).map V.ref)) hp2;refine ⟨p1,p2,_,_,rfl,rfl,SqL.of (u2 p1 _ aC),SqL.of aC,(by rw [List.length_map,List.length_map,List.length_take,List.length_drop];omega),fun p3 hp3=>?_⟩;rw [show (bs.take p).map V.ref++(bs.drop (p+1)).map V.ref=(bs.eraseIdx p).map V.ref by rw [<- List.map_append,List.eraseIdx_eq_take_drop_succ]];have u3:=aI (o:=.lst ((bs.eraseIdx p).map V.ref)) hp3;have u123:=u1.trans (u2.trans u3);refine ⟨p3,rfl,⟨_,SqL.of aC⟩,?_⟩;have hlok:∀ r∈N,wJ inv pr m top r:=fun r hrm=>⟨hNr r hrm,htl,by omega,by omega,ps,fL (hNb r hrm _ (lN (by rw [hNr r hrm];omega))) (Nat.lt_of_le_of_lt (Nat.add_le_add_left (Nat.mul_le_mul_right _ (show k<=n by omega)) B) bd),by omega,htb⟩
    have hsub:∀ r∈N.eraseIdx p,r∈N:=fun r hr=>List.mem_of_mem_eraseIdx hr
    refine On (low inv pr top) (cW (SqL.of aC)) ((hN5.erase p).on u123) (by rw [List.length_eraseIdx];split <;> omega) (fun a' r G' hrm hS s' N' hN'=>?_) fun D4 cs G6 hD4 s6 hd6 _ hR6=>?_
    ·exact ⟨_,rfl,_,rfl,_,rfl,_,rfl,a',D2,inv,pr,m,r,top,rfl,hS,SqL.of (s' D2 _ (u123 D2 _ hd5)),hlok r (hsub r hrm),fun D G'' hD s'' hd=>hN' D G'' s'' hD hd⟩
    ·have hel:=Dt.elim (m:=pr) (n:=m) (p:=p) (M:=N) (top:=top) (back:=inv) (t:=fun r=>r.getD 0 0*inv % (pr:Int)) (low:=low inv pr top) (by omega) hNl htc (by rw [Int.mul_comm];exact hinv) (fun r _=>Dt.mE _) fun r hrm k hk=>Be (hlok r hrm) hk
     obtain ⟨r1,r2⟩:=Dt.Ds hrest hinv hel hcg;refine ⟨m,Nat.lt_succ_self m,D4,cs,(N.eraseIdx p).map (low inv pr top),k+1,_,_,_,_,sG5.trans (u123.trans s6),hd6,hR6,by rw [List.length_map,List.length_eraseIdx,if_pos (by omega)];omega,fun r hr=>?_,by omega,fun r hr=>?_,r1,r2,rfl⟩
     ·obtain ⟨r',hr',rfl⟩:=List.mem_map.mp hr
      exact Bl (hlok r' (hsub r' hr'))
     ·obtain ⟨r',hr',rfl⟩:=List.mem_map.mp hr
      rw [Nat.add_mul,Nat.one_mul,<- Nat.add_assoc];exact Ic (hlok r' (hsub r' hr')) (hNb r' (hsub r' hr'))
set_option genInjectivity false in
structure rP (M:List (List Int))(n:Nat):Prop where
 len:M.length=n
 row:∀ r∈M,r.length=n
 sz:n<=64
 sm:∀ r∈M,Dt.rs n r<=2 ^ 110
theorem rP.part {M:List (List Int)}{n:Nat}(h:rP M n)(i:Nat):Dt.pL ((M.take i).map (Dt.rs n))<2 ^ 8000:=by
 have h1:=Dt.Em (R:=2 ^ 110) (l:=(M.take i).map (Dt.rs n)) fun x hx=>by
  obtain ⟨r,hr,rfl⟩:=List.mem_map.mp hx;exact h.sm r (List.mem_of_mem_take hr)
 rw [List.length_map,List.length_take,<- Nat.pow_mul] at h1
 have:=h.len
 have:=h.sz
 exact Nat.lt_of_le_of_lt h1 (Nat.pow_lt_pow_right (by decide) (by omega))
def uY (K:PySem.W.Frag):Sp:=fun vs H Q _=>∃ (a:Addr) (as:List Addr) (M:List (List Int)) (n:Nat),vs=[.ref a]∧SqL K H a (as.map V.ref)∧dR K H as M∧rP M n∧∀ H',aM H H'->Q (.int (Dt.pL (M.map (Dt.rs n)):Nat)) H'
theorem pA {f:Addr}{fd:FuncData}(F:Fun K "greatest_of" "greatest_of" dD f fd)(tt:Txt K mg ad):cO P w K mg base (CX1 P w) 1 f fd ["square"] (uY K):=by
 refine F.okN fP (fun vs H Q E h=>?_) (fun cdv A outer s H vs Q E hr h=>?_)
 ·obtain ⟨a,as,M,n,rfl,_⟩:=h
  rfl
 ·obtain ⟨a,as,M,n,rfl,hA,hR,ok,q⟩:=h
  have hs:sizeLine=16777216:=sizeLine_eq;have hrl:=hR.1;have hlen:=ok.len;have hsz:=ok.sz;refine ⟨_,(aB (aJ (i:=1) fP.nd rfl (Or.inl rfl) aG)
   (aB (cM PassesOwn.never rfl (bW (pv 0)) (bO (i:=2) fP.nd rfl (Or.inl rfl)) (aF (aJ (i:=1) fP.nd rfl (Or.inl rfl) (aL fQ (pv 1) (aN (Dc rfl) (by rfl) tt.b_sum PyProof.Rows.boot_sum (aA (eL mJ rfl (bW (pv 2)) (fun cl C s' H' fp=>(aN Fv (by rfl) tt.b_abs PyProof.Rows.boot_abs (aA (pv 0) aD)))) aD))))))
   (aF (bD (pv 1))))),?_⟩
  (try rw [eF]);(try rw [cxK1])
  refine ⟨_,rfl,a,rfl,⟨_,hA⟩,?_⟩;refine cT (K:=K) (a:=a) (xs:=as.map V.ref) (fun i σ G=>aM H G∧∃ v2:Option V,σ=[some (.ref a),some (.int (Dt.pL ((M.take i).map (Dt.rs n)):Nat)),v2]) ⟨aM.refl _,none,rfl⟩ (fun i σ G _ h=>h.1.seq hA) ?_ ?_
  ·rintro i v σ G hi ⟨sG,v2,rfl⟩
   obtain ⟨a',r,rfl,hr',hS⟩:=(hR.on sG).at hi;have hrm:=List.mem_of_getElem? hr';have hrl2:=ok.row r hrm;refine ⟨_,rfl,_,rfl,a',rfl,⟨_,hS⟩,?_⟩;refine jA (fun v=>match v with | .int i=>.int (if i<0 then -i else i) | _=>.non) (cW hS) (by rw [List.length_map];omega) (fun v G' hv s' N' hN'=>?_) fun D2 G5 hD2 s5 hd5=>?_
   ·obtain ⟨i,hi,rfl⟩:=List.mem_map.mp hv
    exact ⟨_,rfl,_,rfl,hN' G' (aM.refl _)⟩
   have hd5:G5 D2=some (.lst ((r.map fun i=>if i<0 then -i else i).map V.int)):=by rw [hd5,List.map_map,List.map_map];rfl
   refine ⟨D2,_,rfl,SqL.of hd5,?_⟩;rw [Dt.Jo hrl2];have e:Dt.pL ((M.take (i+1)).map (Dt.rs n))=Dt.pL ((M.take i).map (Dt.rs n))*Dt.rs n r:=by rw [List.take_add_one,hr',List.map_append];exact Dt.zV _ _
   refine ⟨_,_,rfl,rfl,⟨fL (by rw [Int.natAbs_natCast];exact Nat.le_refl _) (ok.part i),fL (n:=2 ^ 110) (by rw [Int.natAbs_natCast];exact ok.sm r hrm) (iL (k:=111) (by decide +kernel) (by decide))⟩,?_⟩;refine ⟨sG.trans s5,some (.ref a'),?_⟩;rw [e,Int.natCast_mul];rfl
  ·rintro σ G ⟨sG,v2,rfl⟩
   rw [List.length_map,List.take_of_length_le (by omega)];exact ⟨_,rfl,q G sG⟩
def kts:List Int:=[133,211,598,652,721,850,1282,1417,1582,1681,1726,1837,1885,2017,2377,2383,2452,2476,2530,2611,2662,2698,2773,2878,2917,2980,2998,3082,3238,3250,3343,3421,3427,3670,3817,4162,4252,4447,4468,4621,4630,4747,4867,4891,4915,5128,5143,5236,5401,5587,5650,5803,5833,5923,5986,6202,6235,6286,6496,6526,6736,7093,7561,7696,7831,7855,7882,7927,8143,8248]
def uC:Sp:=fun vs H Q _=>∃ (j:Nat) (last:Int),vs=[.int (j:Nat),.int last]∧j<7∧Q (.int (kts.getD j 0)) H
theorem mQ {f:Addr}{fd:FuncData}(F:Fun K "further_times" "further_times" cZ f fd)(tt:Txt K mg ad):cO P w K mg base (CX1 P w) 1 f fd ["place", "last"] uC:=by
 refine F.okN mT (fun vs H Q E h=>?_) (fun cdv A outer s H vs Q E hr h=>?_)
 ·obtain ⟨j,last,rfl,_⟩:=h
  rfl
 ·obtain ⟨j,last,rfl,hj,q⟩:=h
  have hkt:SqT K H ad.KNOWN_TIMES (kts.map V.int):=SqT.tupIs tt.kt;have hkl:(kts.map V.int).length=70:=rfl;refine ⟨_,(aB (bX (aO qW (pv 0) (aN aY (by rfl) tt.b_len PySem.boot_len (aA (fS (v:=.ref ad.KNOWN_TIMES) (by rfl) tt.m_KNOWN_TIMES rfl) aD)) (aZ _)) (aF (bD (fV Le (fS (v:=.ref ad.KNOWN_TIMES) (by rfl) tt.m_KNOWN_TIMES rfl) (pv 0) (fun _ _=>rfl)))) aW)
   Hz),?_⟩
  (try rw [eF]);(try rw [cxK1])
  refine ⟨_,rfl,ad.KNOWN_TIMES,_,rfl,.inr hkt,_,_,rfl,rfl,_,rfl,?_⟩;rw [hkl];refine itP (decide_eq_true (by omega)) ?_;exact ⟨_,rfl,ad.KNOWN_TIMES,_,_,_,rfl,rfl,hkt,dS (j:=j) (jY (by show j<70;omega)),q⟩
theorem Pc:∀ j,j<7->kts.getD j 0*6277101735386680763835789423207666416102355444464034512896+1=((Dt.pr j:Nat):Int):=by decide +kernel
theorem Mc:∀ j,j<7->(kts.getD j 0).natAbs<2 ^ 20:=by decide +kernel
def Gd (K:PySem.W.Frag):Sp:=fun vs H Q _=>∃ (a:Addr) (as:List Addr) (M:List (List Int)) (n:Nat),vs=[.ref a]∧SqL K H a (as.map V.ref)∧dR K H as M∧rP M n∧2*Dt.pL (M.map (Dt.rs n))<Dt.md 7∧∀ H',aM H H'->Q (.int (Dt.det n (Dt.ent M))) H'
theorem Kz {n p:Nat}(hn:n<=64)(hp:p<2 ^ 250):2 ^ 110+n*(p*p)<2 ^ 8000:=by
 have h1:n*(p*p)<=64*(2 ^ 250*2 ^ 250):=Nat.mul_le_mul hn (Nat.mul_le_mul (Nat.le_of_lt hp) (Nat.le_of_lt hp));exact Nat.lt_of_le_of_lt (Nat.add_le_add_left h1 _) (by decide +kernel)
theorem rP.rest {M:List (List Int)}{n p:Nat}(h:rP M n)(hp:Dt.dP p)(hl:p<2 ^ 250):Fr M n p (2 ^ 110) :=
 ⟨h.len,h.row,Nat.le_trans h.sz (by decide),hp,Nat.lt_of_lt_of_le hl (Nat.pow_le_pow_right (by decide) (by decide)),fun r hr x hx=>Nat.le_trans (Dt.Mg (h.row r hr) hx) (h.sm r hr),Kz h.sz hl⟩
theorem qG {f:Addr}{fd:FuncData}(F:Fun K "determinant" "determinant" eB f fd)(tt:Txt K mg ad)(C_greatest_of:Cal P w K mg base (CX1 P w) "greatest_of" 1 ["square"] (uY K))(C_determinant_rest:Cal P w K mg base (CX1 P w) "determinant_rest" 2 ["square", "prime"] (yG K))(C_further_times:Cal P w K mg base (CX1 P w) "further_times" 1 ["place", "last"] uC)(C_inverse:Cal P w K mg base (CX1 P w) "inverse" 1 ["number", "prime"] uI) :
  cO P w K mg base (CX1 P w) 3 f fd ["square"] (Gd K):=by
 refine F.okN bN (fun vs H Q E h=>?_) (fun cdv A outer s H vs Q E hr h=>?_)
 ·obtain ⟨a,as,M,n,rfl,_⟩:=h
  rfl
 ·obtain ⟨a,as,M,n,rfl,hA,hR,ok,hlt,q⟩:=h
  have hs:sizeLine=16777216:=sizeLine_eq;have hdet:=Dt.Nd (M:=M) ok.len;have hbnd:=ok.part n;rw [List.take_of_length_le (by rw [ok.len];exact Nat.le_refl _)] at hbnd;generalize hB:Dt.pL (M.map (Dt.rs n))=B at hlt hdet hbnd;generalize hDD:Dt.det n (Dt.ent M)=DD at q hdet;have bB:Bg ((B:Nat):Int):=fL (by rw [Int.natAbs_natCast];exact Nat.le_refl _) hbnd;refine ⟨_,(aB (aJ (i:=1) bN.nd rfl (Or.inl rfl) (aP C_greatest_of hr bL (aA (pv 0) aD)))
   (aB (aJ (i:=2) bN.nd rfl (Or.inl rfl) (aP C_determinant_rest hr bL (aA (pv 0) (aA (fS (by rfl) tt.g_FIRST_PRIME tt.r_FIRST_PRIME) aD))))
   (aB (aJ (i:=3) bN.nd rfl (Or.inl rfl) (fS (by rfl) tt.g_FIRST_PRIME tt.r_FIRST_PRIME))
   (aB (aJ (i:=4) bN.nd rfl (Or.inl rfl) aG)
   (aB (aJ (i:=5) bN.nd rfl (Or.inl rfl) aG)
   (aB (jH PassesOwn.never (aO Ox (pv 3) (aL fQ aG (pv 1)) (aZ _)) (aB (aJ (i:=5) bN.nd rfl (Or.inl rfl) (aP C_further_times hr bL (aA (pv 4) (aA (pv 5) aD))))
   (aB (aJ (i:=4) bN.nd rfl (Or.inl rfl) (aL dE (pv 4) aG))
   (aB (aJ (i:=6) bN.nd rfl (Or.inl rfl) (aL dE (aL fQ (pv 5) (fS (by rfl) tt.g_STEP tt.r_STEP)) aG))
   (aB (aJ (i:=7) bN.nd rfl (Or.inl rfl) (aL gO (aP C_determinant_rest hr bL (aA (pv 0) (aA (pv 6) aD))) (pv 2)))
   (aB (aJ (i:=2) bN.nd rfl (Or.inl rfl) (aL dE (pv 2) (aL fQ (aL cQ (aL fQ (pv 7) (aP C_inverse hr bL (aA (pv 3) (aA (pv 6) aD)))) (pv 6)) (pv 3))))
   (aF (aJ (i:=3) bN.nd rfl (Or.inl rfl) (aL fQ (pv 3) (pv 6))))))))))
   (aB (bX (aO nJ (pv 2) (pv 1) (aZ _)) (aF (bD (aL gO (pv 2) (pv 3)))) aW)
   (aF (bD (pv 2)))))))))),?_⟩
  (try rw [eF]);(try rw [cxK1])
  refine ⟨_,rfl,a,as,M,n,rfl,hA,hR,ok,fun G1 s1=>?_⟩;rw [hB];refine ⟨_,rfl,a,as,M,n,2305843009213693951,2 ^ 110,rfl,s1.seq hA,hR.on s1,ok.rest Dt.Qh (by decide +kernel),fun res G2 s2 hres hcg=>?_⟩;rw [hDD] at hcg;refine ⟨fun m σ G=>∃ (j:Nat) (res times:Int) (v6 v7:Option V),m=7-j∧j<=7∧aM H G∧(0<=res∧res<(Dt.md j:Nat))∧Dt.Cg (Dt.md j:Nat) res DD∧σ=[some (.ref a),some (.int (B:Nat)),some (.int res),some (.int (Dt.md j:Nat)),some (.int (j:Nat)),some (.int times),v6,v7],
   ⟨_,0,res,0,none,none,rfl,by omega,s1.trans s2,hres,hcg,rfl⟩,?_⟩
  rintro m σ G ⟨j,res,times,v6,v7,rfl,hj,sG,hres,hcg,rfl⟩;refine ⟨_,rfl,_,rfl,_,_,rfl,rfl,⟨fL (n:=2) (by decide) (by decide +kernel),bB⟩,_,_,rfl,rfl,_,rfl,?_⟩;by_cases hle:Dt.md j<=2*B
  ·refine itP (decide_eq_true (by omega)) ?_
   have hj7:j<7:=by
    rcases Nat.lt_or_ge j 7 with z | z
    ·exact z
    ·rw [show j=7 by omega] at hle
     omega
   obtain ⟨k1,k2,k3,k4⟩:=Dt.Ni j hj7;have ePr:=Pc j hj7;have hpp:=Dt.Gs hj7;have hp1:=hpp.1;have l1:=iL k1 (by decide);have l3:=iL k3 (by decide);have l4:=iL k4 (by decide);have bP:Bg ((Dt.pr j:Nat):Int):=fL (by rw [Int.natAbs_natCast];exact Nat.le_refl _) l1;have bM:Bg ((Dt.md j:Nat):Int):=fL (by rw [Int.natAbs_natCast];exact Nat.le_refl _) l3;refine ⟨_,fun σ' H' z=>z,?_⟩;refine ⟨_,rfl,_,rfl,j,times,rfl,hj7,?_⟩;refine ⟨_,rfl,_,_,rfl,rfl,?_⟩;refine ⟨_,rfl,_,_,rfl,rfl,⟨fL (Nat.le_of_lt (Mc j hj7)) (iL (k:=21) (by decide +kernel) (by decide)),fL (n:=2 ^ 200) (by decide +kernel) (iL (k:=201) (by decide +kernel) (by decide))⟩,_,_,rfl,rfl,?_⟩;refine ⟨_,rfl,_,rfl,a,as,M,n,Dt.pr j,2 ^ 110,congrArg (fun z=>[V.ref a,V.int z]) ePr,sG.seq hA,hR.on sG,ok.rest hpp k1,fun r2 G3 s3 hr2 hc2=>?_⟩;rw [hDD] at hc2;refine ⟨_,rfl,_,_,rfl,rfl,?_⟩;refine ⟨_,rfl,_,rfl,_,rfl,_,rfl,((Dt.md j:Nat):Int),Dt.pr j,congrArg (fun z=>[V.int ((Dt.md j:Nat):Int),V.int z]) ePr,hpp,Nat.lt_of_lt_of_le k1 (Nat.pow_le_pow_right (by decide) (by decide)),(fun z=>k2 (by exact_mod_cast z)),fun inv hi hib=>?_⟩;have q1:=Int.emod_nonneg ((r2-res)*inv) (show ((Dt.pr j:Nat):Int)≠0 by omega);have q2:=Int.emod_lt_of_pos ((r2-res)*inv) (show (0:Int)<((Dt.pr j:Nat):Int) by omega);obtain ⟨c1,c2,c3⟩:=Dt.crt (M1:=Dt.md j) (pr:=Dt.pr j) (D:=DD) (res:=res) (r2:=r2) (inv:=inv) (by omega) (by omega) hcg hc2 hi hres;refine ⟨_,_,rfl,rfl,⟨fL (n:=Dt.md j+Dt.pr j) (by omega) (Nat.lt_of_lt_of_le (Nat.add_lt_add k3 k1) (by decide +kernel)),fL (n:=Dt.pr j) (by omega) l1⟩,_,rfl,_,_,rfl,rfl,(by show (0:Int)<_;rw [ePr];omega),_,rfl,_,_,rfl,rfl,⟨?_,bM⟩,_,_,rfl,rfl,?_⟩
   ·show Bg ((r2-res)*inv % _)
    rw [ePr];exact fL (n:=Dt.pr j) (by omega) l1
   refine ⟨_,rfl,_,rfl,_,_,rfl,rfl,⟨bM,by rw [ePr];exact bP⟩,?_⟩;refine ⟨7-(j+1),by omega,j+1,res+(r2-res)*inv % (Dt.pr j:Nat)*(Dt.md j:Nat),kts.getD j 0,some (.int (kts.getD j 0*6277101735386680763835789423207666416102355444464034512896+1)),some (.int (r2-res)),rfl,by omega,sG.trans s3,⟨c2,c3⟩,c1,?_⟩;rw [<- ePr,show ((Dt.md (j+1):Nat):Int)=(Dt.md j:Nat)*(kts.getD j 0*6277101735386680763835789423207666416102355444464034512896+1) by rw [ePr];exact Int.natCast_mul ..];rfl
  ·refine itN (fun z=>hle (by have:=of_decide_eq_true z;omega)) ?_
   have hfr:=Dt.Bt (M:=Dt.md j) (D:=DD) (res:=res) (bd:=(B:Nat)) (by omega) (by omega) hcg hres;refine ⟨_,rfl,_,rfl,_,_,rfl,rfl,_,rfl,?_⟩;by_cases hgt:((B:Nat):Int)<res
   ·rw [if_pos hgt] at hfr
    refine itP (decide_eq_true hgt) ?_;refine ⟨_,rfl,_,rfl,_,_,rfl,rfl,?_⟩;rw [<- hfr] at q;exact q G sG
   ·rw [if_neg hgt] at hfr
    refine itN (fun z=>hgt (of_decide_eq_true z)) ?_;rw [<- hfr] at q;exact ⟨_,rfl,q G sG⟩
def qH (words:List (List Nat))(o:List Nat):Int:=((words.countP fun w=>decide (w.drop 1=o):Nat):Int)
def rG (texts:List (List Nat))(t:List Nat)(words:List (List Nat)):List Int:=texts.map fun o=>if o=t then ((words.length:Nat):Int)-qH words t else-qH words o
theorem Ar {words:List (List Nat)}{o:List Nat}:((((words.map fun w=>w.drop 1).map T).countP fun y=>eqV y (T o):Nat):Int)=qH words o:=by
 unfold qH;rw [List.map_map,List.countP_map]
 congr 2
 funext w
 show (tx (w.drop 1)==tx o)=decide (w.drop 1=o);rw [Bool.eq_iff_iff,beq_iff_eq,decide_eq_true_iff];exact ⟨fun h=>fG h,fun h=>by rw [h]⟩
def zR (K:PySem.W.Frag):Sp:=fun vs H Q _=>∃ (a b:Addr) (texts words:List (List Nat)) (t:List Nat),vs=[.ref a,T t,.ref b]∧SqL K H a (texts.map T)∧SqL K H b (words.map T)∧(texts.length<=200∧words.length<=200∧∀ x∈words,1<=x.length∧x.length<=1000)∧∀ D H',H D=none->aM H H'->H' D=some (.lst ((rG texts t words).map V.int))->Q (.ref D) H'
theorem rO {f:Addr}{fd:FuncData}(F:Fun K "choice_row" "choice_row" dC f fd)(tt:Txt K mg ad)(C_end_of:Cal P w K mg base (CX1 P w) "end_of" 1 ["word"] xV):cO P w K mg base (CX1 P w) 2 f fd ["texts", "text", "words"] (zR K):=by
 refine F.okN kI (fun vs H Q E h=>?_) (fun cdv A outer s H vs Q E hr h=>?_)
 ·obtain ⟨a,b,texts,words,t,rfl,_⟩:=h
  rfl
 ·obtain ⟨a,b,texts,words,t,rfl,hA,hB,⟨h1,h2,h3⟩,q⟩:=h
  have hs:sizeLine=16777216:=sizeLine_eq;refine ⟨_,(aB (aJ (i:=3) kI.nd rfl (Or.inr rfl) (eL nZ rfl (bW (pv 2)) (fun cl C s' H' fp=>(aP C_end_of hr bL (aA (pv 0) aD)))))
   (aF (bD (eL oC rfl (bW (pv 0)) (fun cl C s' H' fp=>(Hy (aO Ak (pv 0) (pv 2) (aZ _)) (aL gO (aN (zJ K rfl) (by rfl) tt.b_len PySem.boot_len (aA (pv 4) aD)) (Hl K rfl PySem.F.plainAttrs_list PySem.F.slot_list_count PySem.F.type_list_count (tI K rfl) (pv 4) (aA (pv 2) aD))) (jF gQ (Hl K rfl PySem.F.plainAttrs_list PySem.F.slot_list_count PySem.F.type_list_count (tI K rfl) (pv 4) (aA (pv 0) aD))))))))),?_⟩
  (try rw [eF]);(try rw [cxK1])
  refine ⟨_,rfl,b,rfl,⟨_,hB⟩,?_⟩;refine jA (fun v=>T ((unT v).drop 1)) (cW hB) (by rw [List.length_map];omega) (fun v G hv sg N hN=>?_) fun D1 G1 hD1 s1 hd1=>?_
  ·obtain ⟨l,hl,rfl⟩:=List.mem_map.mp hv
   have z:=hN G (aM.refl _);rw [fJ] at z;have hx:=h3 l hl;exact ⟨_,rfl,l,rfl,⟨by omega,by omega⟩,z⟩
  have hd1:G1 D1=some (.lst ((words.map fun w=>w.drop 1).map T)):=by
   rw [hd1,List.map_map,List.map_map];refine congrArg (fun l=>some (HO.lst l)) (List.map_congr_left fun m _=>?_);show T ((unT (T m)).drop 1)=T (m.drop 1);rw [fJ]
  refine ⟨_,rfl,a,rfl,⟨_,s1.seq hA⟩,?_⟩;refine jA (fun v=>.int (if unT v=t then ((words.length:Nat):Int)-qH words t else-qH words (unT v))) (cW (s1.seq hA)) (by rw [List.length_map];omega) (fun v G hv sg N hN=>?_) fun D2 G2 hD2 s2 hd2=>?_
  ·obtain ⟨o,ho,rfl⟩:=List.mem_map.mp hv
   have z:=hN G (aM.refl _);rw [fJ] at z;have hdG:=sg D1 _ hd1;refine ⟨_,rfl,_,rfl,_,rfl,_,rfl,_,rfl,?_⟩;by_cases hot:o=t
   ·rw [if_pos hot] at z
    refine itP (decide_eq_true hot) ?_;refine ⟨_,rfl,D1,_,rfl,.inl (SqL.of hdG),_,rfl,.inl ⟨rfl,_,SqL.of hdG⟩,_,rfl,D1,_,_,rfl,rfl,SqL.of hdG,gM _,rfl,_,_,rfl,rfl,?_⟩;rw [Ar,List.length_map,List.length_map];exact z
   ·rw [if_neg hot] at z
    refine itN (fun y=>hot (of_decide_eq_true y)) ?_;refine ⟨_,rfl,.inl ⟨rfl,_,SqL.of hdG⟩,_,rfl,D1,_,_,rfl,rfl,SqL.of hdG,gM _,rfl,_,rfl,?_⟩;rw [Ar];exact z
  have hD0:H D2=none:=by
   cases e:H D2 with
   | none=>rfl
   | some o=>have:=s1 D2 o e;rw [hD2] at this;cases this
  refine q D2 G2 hD0 (s1.trans s2) ?_;rw [hd2];unfold rG;rw [List.map_map,List.map_map];refine congrArg (fun l=>some (HO.lst l)) (List.map_congr_left fun m _=>?_);show V.int (if unT (T m)=t then _ else _)=V.int (if m=t then _ else _);rw [fJ]
def bU (ms:List (List Nat))(p:List Nat):List (List Nat):=ms.filter fun l=>decide (beg l=p)
def qR (C:Addr):Sp:=fun vs H Q _=>∃ (x tp:Addr) (n:Nat) (ms:List (List Nat)) (p:List Nat),vs=[.ref x,T p]∧jO C H x tp n ms∧iB ms n∧∀ D H',H D=none->aM H H'->H' D=some (.lst ((bU ms p).map T))->Q (.ref D) H'
theorem Iq {f:Addr}{fd:FuncData}(F:Fun K "outs" "outs" kW f fd)(tt:Txt K mg ad)(C_begin_of:Cal P w K mg base (CX1 P w) "begin_of" 1 ["word"] iO):cO P w K mg base (CX1 P w) 2 f fd ["web", "piece"] (qR ad.Web):=by
 refine F.okN Ij (fun vs H Q E h=>?_) (fun cdv A outer s H vs Q E hr h=>?_)
 ·obtain ⟨x,tp,n,ms,p,rfl,_⟩:=h
  rfl
 ·obtain ⟨x,tp,n,ms,p,rfl,hW,hok,q⟩:=h
  have hs:sizeLine=16777216:=sizeLine_eq;obtain ⟨⟨dx,hx⟩,htp⟩:=id hW;obtain ⟨hne,h64,⟨hn,hfew⟩,hxs,hnd⟩:=id hok;refine ⟨_,(aF (bD (Hs Dx rfl (zP (uH (pv 0) rfl)) (fun cl C s' H' fp=>(aO Ak (aP C_begin_of hr bL (aA (pv 0) aD)) (pv 2) (aZ _))) (fun cl C s' H' fp=>(pv 0))))),?_⟩
  (try rw [eF]);(try rw [cxK1])
  refine ⟨_,rfl,x,ad.Web,dx,_,_,rfl,hx,tt.cl_Web,tt.na_Web_words,tV _ _,tp,rfl,⟨_,SqT.of htp⟩,?_⟩;refine Ge (fun v=>decide (beg (unT v)=p)) (fun v=>v) (jX (SqT.of htp)) (by rw [List.length_map];omega) (fun v H2 hv s2 N hN=>?_) (fun v H2 hv hp s2 N hN=>?_) fun D1 H2 hD1 s2 hd2=>?_
  ·obtain ⟨l,hl,rfl⟩:=List.mem_map.mp hv
   have hll:=hxs l hl;have z:=hN H2 (aM.refl _);rw [fJ] at z;exact ⟨_,rfl,l,rfl,⟨by omega,by omega⟩,_,rfl,_,rfl,_,rfl,_,rfl,z⟩
  ·exact ⟨_,rfl,hN H2 (aM.refl _)⟩
  rw [show (ms.map T).filter (fun v=>decide (beg (unT v)=p))=(ms.filter fun l=>decide (beg l=p)).map T from lF (p:=fun l=>decide (beg l=p)) ms,List.map_id'] at hd2;exact q D1 H2 hD1 s2 hd2
inductive aS (H:Hp)(g:List Nat->List (List Nat)):List (List Nat)->List (Key×V)->Prop
 | nil:aS H g [] []
 | cons {o:List Nat} {a:Addr} {ls:List (List Nat)} {kvs:List (Key×V)}:H a=some (.lst ((g o).map T))->aS H g ls kvs->aS H g (o::ls) ((Sum.inr (tx o),.ref a)::kvs)
theorem aS.keys {H:Hp}{g:List Nat->List (List Nat)}{ls:List (List Nat)}{kvs:List (Key×V)}(h:aS H g ls kvs):kvs.map (·.1)=ls.map fun t=>Sum.inr (tx t):=by
 induction h with
 | nil=>rfl
 | cons _ _ ih=>rw [List.map_cons,List.map_cons,ih]
theorem aS.len {H:Hp}{g:List Nat->List (List Nat)}{ls:List (List Nat)}{kvs:List (Key×V)}(h:aS H g ls kvs):kvs.length=ls.length:=by
 have:=congrArg List.length h.keys
 rwa [List.length_map,List.length_map] at this
theorem aS.mono {H H':Hp}{g:List Nat->List (List Nat)}{ls:List (List Nat)}{kvs:List (Key×V)}(s:aM H H')(h:aS H g ls kvs):aS H' g ls kvs:=by
 induction h with
 | nil=>exact .nil
 | cons e _ ih=>exact .cons (s _ _ e) ih
theorem aS.updD {H:Hp}{g:List Nat->List (List Nat)}{ls:List (List Nat)}{kvs k:List (Key×V)}{D:Addr}{o:HO}(hd:H D=some (.dK k))(h:aS H g ls kvs):aS (upd H D o) g ls kvs:=by
 induction h with
 | nil=>exact .nil
 | @cons _ a _ _ e _ ih =>
  have hne:a≠D:=fun z=>by rw [z,hd] at e;cases e
  exact .cons (by rw [aH hne];exact e) ih
theorem aS.snoc {H:Hp}{g:List Nat->List (List Nat)}{ls:List (List Nat)}{kvs:List (Key×V)}{o:List Nat}{a:Addr}(h:aS H g ls kvs)(e:H a=some (.lst ((g o).map T))):aS H g (ls++[o]) (kvs++[(Sum.inr (tx o),.ref a)]):=by
 induction h with
 | nil=>exact .cons e .nil
 | cons e1 _ ih=>exact .cons e1 ih
theorem aS.put {H:Hp}{g:List Nat->List (List Nat)}{ls:List (List Nat)}{kvs:List (Key×V)}{o:List Nat}{a:Addr}(h:aS H g ls kvs)(ho:o∉ls)(e:H a=some (.lst ((g o).map T))):aS H g (ls++[o]) (cJ kvs (Sum.inr (tx o)) (.ref a)):=by
 have hn:¬ (kvs.any fun kv=>decide (kv.1=Sum.inr (tx o)))=true:=fun z=>by
  obtain ⟨kv,h1,h2⟩:=List.any_eq_true.mp z;have h3:kv.1∈kvs.map (·.1):=List.mem_map_of_mem h1;rw [h.keys,of_decide_eq_true h2] at h3;obtain ⟨t,h4,h5⟩:=List.mem_map.mp h3;have h6:t=o:=fG (Sum.inr.inj h5);exact ho (h6▸h4)
 unfold cJ;rw [if_neg hn];exact h.snoc e
theorem aS.get {H:Hp}{g:List Nat->List (List Nat)}{ls:List (List Nat)}{kvs:List (Key×V)}{o:List Nat}(h:aS H g ls kvs)(ho:o∈ls):∃ a,fF kvs (Sum.inr (tx o))=some (.ref a)∧H a=some (.lst ((g o).map T)):=by
 induction h with
 | nil=>cases ho
 | @cons o' a _ _ e _ ih =>
  by_cases hoo:o'=o
  ·subst hoo
   exact ⟨a,fZ rfl,e⟩
  ·obtain ⟨b,h1,h2⟩:=ih ((List.mem_cons.mp ho).resolve_left (Ne.symm hoo))
   exact ⟨b,by rw [fT (fun z=>hoo (fG (Sum.inr.inj z)))];exact h1,h2⟩
def kB (C:Addr)(ad:Adr):Sp:=fun vs H Q E=>∃ (x tp:Addr) (n:Nat) (ms:List (List Nat)) (p:List Nat),vs=[.ref x,T p]∧jO C H x tp n ms∧iB ms n∧(¬ IsP ms p->∀ H',aM H H'->E (.ref ad.NoSuch) none H') ∧
 (IsP ms p->∀ (D:Addr) (ps:List (List Nat)) (kvs:List (Key×V)) (H':Hp),H D=none->aM H H'->H' D=some (.dK kvs)->aS H' (bU ms) (ps.filter fun o=>decide (o≠p)) kvs->ps.length<=62->ps.Pairwise (fun a b=>¬ b<a)->ps.Nodup->(∀ z,z∈ps↔IsP ms z)->Q (.ref D) H')
theorem eS {H G:Hp}{D:Addr}(s:aM H G)(h:G D=none):H D=none:=by
 cases e:H D with
 | none=>rfl
 | some o=>exact absurd ((s D o e).symm.trans h) (fun z=>nomatch z)
theorem qL {f:Addr}{fd:FuncData}(F:Fun K "ways_toward" "ways_toward" eA f fd)(tt:Txt K mg ad)(C_pieces:Cal P w K mg base (CX1 P w) "pieces" 2 ["web"] (qC ad.Web))(C_outs:Cal P w K mg base (CX1 P w) "outs" 2 ["web", "piece"] (qR ad.Web)) :
  cO P w K mg base (CX1 P w) 3 f fd ["web", "piece"] (kB ad.Web ad):=by
 refine F.okX fR (fun vs H Q E h=>?_) (fun cdv A outer s H vs Q E hr h=>?_)
 ·obtain ⟨x,tp,n,ms,p,rfl,_⟩:=h
  rfl
 ·obtain ⟨x,tp,n,ms,p,rfl,hW,hok,xn,q⟩:=h
  have hs:sizeLine=16777216:=sizeLine_eq;obtain ⟨⟨dx,hx⟩,htp⟩:=id hW;obtain ⟨hne,h64,⟨hn,hfew⟩,hxs,hnd⟩:=id hok;refine ⟨_,(aB (aJ (i:=2) fR.nd rfl (Or.inl rfl) (aP C_pieces hr bL (aA (pv 0) aD)))
   (aB (bX (aO gH (pv 1) (pv 2) (by with_unfolding_all rfl)) (aF (eM (E:=fun cls H'=>E cls none H') tt.x_NoSuch rfl (fun _ _ _ _ _ _ _ I hx q=>gN I hx q) (aA (cH [116,104,101,32,119,101,98,32,104,97,115,32,110,111,32,115,117,99,104,32,112,105,101,99,101] (by decide +kernel)) aD))) aW)
   (aB (aJ (i:=3) fR.nd rfl (Or.inl rfl) lO)
   (aB (cM PassesOwn.leaving rfl (bW (pv 2)) (bO (i:=4) fR.nd rfl (Or.inl rfl)) (aF (bX (aO oM (pv 4) (pv 1) (aZ _)) (aF (iZ (fO hr) (pv 3) (pv 4) (aP C_outs hr bL (aA (pv 0) (aA (pv 4) aD))) rfl)) aW)))
   (aF (bD (pv 3))))))),?_⟩
  (try rw [eF]);(try rw [cxK1])
  refine ⟨_,rfl,x,tp,n,ms,rfl,hW,hok,fun D1 ps H1 hD1 s1 hd1 hpw hpn hpm=>?_⟩;have hlen:ps.length<=62:=wD (p:=[]) hfew hpn fun z hz=>.inr ((hpm z).mp hz)
  refine ⟨_,rfl,_,rfl,D1,_,rfl,.inl (SqL.of hd1),rfl,gM ps,_,rfl,?_⟩;by_cases hp:p∈ps
  ·refine itN (by rw [qI,decide_eq_true hp];exact Bool.false_ne_true) ?_
   refine fun D hD=>?_
   have hD0:=eS s1 hD;have hd1':upd H1 D (.dK []) D1=some (.lst (ps.map T)):=by rw [aH (aK hd1 hD)];exact hd1
   refine ⟨_,rfl,D1,rfl,⟨_,SqL.of hd1'⟩,?_⟩;refine cT (K:=K) (a:=D1) (xs:=ps.map T) (fun i σ H3=>aM H1 H3∧∃ (kvs:List (Key×V)) (v4:Option V),H3 D=some (.dK kvs)∧aS H3 (bU ms) ((ps.take i).filter fun o=>decide (o≠p)) kvs∧σ=[some (.ref x),some (T p),some (.ref D1),some (.ref D),v4]) ⟨aI hD,[],none,aC,.nil,rfl⟩ (fun i σ H3 _ h=>SqL.of (h.1 D1 _ hd1)) ?_ ?_
   ·rintro i y σ H3 hi ⟨s3,kvs,v4,hd3,hwa,rfl⟩
    obtain ⟨o,ho,rfl⟩:∃ o,ps[i]?=some o∧T o=y:=by rw [List.getElem?_map] at hi;exact Option.map_eq_some_iff.mp hi
    have htk:ps.take (i+1)=ps.take i++[o]:=by rw [List.take_add_one,ho];rfl
    refine ⟨_,rfl,_,rfl,_,rfl,_,rfl,_,rfl,?_⟩;by_cases hop:o=p
    ·refine itN (by rw [decide_eq_true hop];exact Bool.false_ne_true) ?_
     refine ⟨s3,kvs,some (T o),hd3,?_,rfl⟩;rw [htk,List.filter_append,List.filter_cons_of_neg (by simp [hop])]
     simpa using hwa
    ·refine itP (by rw [decide_eq_false hop];rfl) ?_
     refine ⟨_,rfl,_,rfl,x,tp,n,ms,o,rfl,⟨⟨dx,s3 x _ (s1 x _ hx)⟩,s3 tp _ (s1 tp _ htp)⟩,hok,fun D4 H4 hD4 s4 hd4=>?_⟩;refine ⟨_,rfl,_,rfl,D,_,rfl,pW.k (k:=Sum.inr (tx o)) (s4 D _ hd3) (by rw [hwa.len];have:=List.length_filter_le (fun o=>decide (o≠p)) (ps.take i);rw [List.length_take] at this;omega),?_⟩;have hno:o∉(ps.take i).filter fun o=>decide (o≠p):=fun z=>by
      have z1:=(List.mem_filter.mp z).1;have nd:(ps.take i++[o]).Nodup:=htk▸hpn.sublist (List.take_sublist (i+1) ps);exact (List.nodup_append.mp nd).2.2 o z1 o (List.mem_singleton.mpr rfl) rfl
     have hne4:D4≠D:=fun z=>by rw [z,hd3] at hD4;cases hD4
     refine ⟨fun b ob e=>?_,_,some (T o),aC,?_,rfl⟩
     ·rw [aH (aK e hD)]
      exact s4 b ob (s3 b ob e)
     ·rw [htk,List.filter_append,List.filter_cons_of_pos (by simp [hop])]
      exact ((hwa.mono s4).put hno hd4).updD (s4 D _ hd3)
   ·rintro σ H3 ⟨s3,kvs,v4,hd3,hwa,rfl⟩
    rw [List.length_map,List.take_length] at hwa;exact ⟨_,rfl,q ((hpm p).mp hp) D ps kvs H3 hD0 (s1.trans s3) hd3 hwa hlen hpw hpn hpm⟩
  ·refine itP (by rw [qI,decide_eq_false hp];rfl) ?_
   exact ⟨(by show 1<=sizeLine;omega),xn (fun z=>hp ((hpm p).mpr z)) H1 s1⟩
def gC (ls:List (List Nat))(g:List Nat->List (List Nat)):List (List Int):=ls.map fun t=>rG ls t (g t)
def iJ (K:PySem.W.Frag):Sp:=fun vs H Q _=>∃ (a:Addr) (ls:List (List Nat)) (kvs:List (Key×V)) (g:List Nat->List (List Nat)),vs=[.ref a]∧H a=some (.dK kvs)∧aS H g ls kvs∧(ls.length<=64∧∀ o∈ls,(g o).length<=200∧∀ x∈g o,1<=x.length∧x.length<=1000) ∧
 rP (gC ls g) ls.length∧2*Dt.pL ((gC ls g).map (Dt.rs ls.length))<Dt.md 7∧∀ H',aM H H'->Q (.int (Dt.det ls.length (Dt.ent (gC ls g)))) H'
theorem lG {f:Addr}{fd:FuncData}(F:Fun K "choices_counted" "choices_counted" cC f fd)(tt:Txt K mg ad)(C_determinant:Cal P w K mg base (CX1 P w) "determinant" 3 ["square"] (Gd K))(C_choice_row:Cal P w K mg base (CX1 P w) "choice_row" 2 ["texts", "text", "words"] (zR K)) :
  cO P w K mg base (CX1 P w) 4 f fd ["ways"] (iJ K):=by
 refine F.okN gP (fun vs H Q E h=>?_) (fun cdv A outer s H vs Q E hr h=>?_)
 ·obtain ⟨a,ls,kvs,g,rfl,_⟩:=h
  rfl
 ·obtain ⟨a,ls,kvs,g,rfl,hd,hwa,⟨h64,hg⟩,hsq,hpl,q⟩:=h
  have hs:sizeLine=16777216:=sizeLine_eq;refine ⟨_,(aB (aJ (i:=1) gP.nd rfl (Or.inr rfl) (dA (lH rfl) (by rfl) tt.b_list (by decide +kernel) (aA (pv 0) aD)))
   (aF (bD (aP C_determinant hr bL (aA (eL jN rfl (bW (pv 1)) (fun cl C s' H' fp=>(aP C_choice_row hr bL (aA (pv 2) (aA (pv 0) (aA (vF (fO hr) (pv 1) (pv 0) (fun _ _=>rfl)) aD)))))) aD))))),?_⟩
  (try rw [eF]);(try rw [cxK1])
  refine ⟨_,rfl,a,ls,kvs,rfl,hd,hwa.keys,fun D1 hD1=>?_⟩;have s1:=aI (o:=.lst (ls.map T)) hD1;refine ⟨_,rfl,D1,rfl,⟨_,SqL.of aC⟩,?_⟩;refine Lf (K:=K) (fun v=>rG ls (unT v) (g (unT v))) (cW (SqL.of aC)) (by rw [List.length_map];omega) (fun v G hv sg N hN=>?_) fun D2 bs G2 hD2 s2 hd2 hne2 hR2=>?_
  ·obtain ⟨t,ht,rfl⟩:=List.mem_map.mp hv
   rw [fJ] at hN;obtain ⟨b,hb1,hb2⟩:=((hwa.mono s1).mono sg).get ht;have hget:jT G a (T t) (some (.ref b)):=by rw [<- hb1];exact jT.k (k:=Sum.inr (tx t)) (sg a _ (s1 a _ hd))
   have hgt:=hg t ht;exact ⟨_,rfl,_,rfl,_,rfl,_,rfl,a,_,rfl,hget,D1,b,ls,g t,t,rfl,SqL.of (sg D1 _ aC),SqL.of hb2,⟨by omega,hgt.1,hgt.2⟩,fun D H' hD s' hd'=>hN D H' s' hD hd'⟩
  rw [show (ls.map T).map (fun v=>rG ls (unT v) (g (unT v)))=gC ls g from by
   unfold gC;rw [List.map_map];refine List.map_congr_left fun m _=>?_
   show rG ls (unT (T m)) (g (unT (T m)))=_;rw [fJ]] at hR2
  exact ⟨D2,bs,gC ls g,ls.length,rfl,SqL.of hd2,hR2,hsq,hpl,fun H' s'=>q H' ((s1.trans s2).trans s')⟩
theorem zW {words:List (List Nat)}{o:List Nat}:(qH words o).natAbs<=words.length:=by
 unfold qH
 have:=List.countP_le_length (p:=fun w=>decide (w.drop 1=o)) (l:=words)
 omega
theorem Gq {texts words:List (List Nat)}{t:List Nat}{x:Int}(hx:x∈rG texts t words):x.natAbs<=words.length:=by
 obtain ⟨o,_,rfl⟩:=List.mem_map.mp hx;have h1:=zW (words:=words) (o:=t);have h2:=zW (words:=words) (o:=o);have h3:0<=qH words t:=Int.natCast_nonneg _;show (if o=t then ((words.length:Nat):Int)-qH words t else-qH words o).natAbs<=_;split <;> omega
theorem Hu {f:Nat->Nat}{c:Nat}:∀ {n:Nat},(∀ j,j<n->f j<=c)->Dt.sN n f<=n*c:=fun {n} h=>by
 have h1:Dt.sN n f<=Dt.sN n fun _=>1*c:=Dt.Er fun j hj=>by rw [Nat.one_mul];exact h j hj
 have h2:∀ n:Nat,Dt.sN n (fun _=>1)=n:=fun n=>by
  induction n with
  | zero=>rfl
  | succ n ih=>show Dt.sN n (fun _=>1)+1=n+1;rw [ih]
 rw [Dt.zM,h2] at h1;exact h1
theorem pV {ls:List (List Nat)}{g:List Nat->List (List Nat)}(h64:ls.length<=64)(hg:∀ o∈ls,(g o).length<=64):rP (gC ls g) ls.length∧2*Dt.pL ((gC ls g).map (Dt.rs ls.length))<Dt.md 7:=by
 have hrow:∀ r∈gC ls g,Dt.rs ls.length r<=4096:=fun r hr=>by
  obtain ⟨t,ht,rfl⟩:=List.mem_map.mp hr;have h1:Dt.rs ls.length (rG ls t (g t))<=ls.length*64:=Hu fun j hj=>by
   have hl:j<(rG ls t (g t)).length:=by unfold rG;rw [List.length_map];exact hj
   rw [List.getD_eq_getElem?_getD,List.getElem?_eq_getElem hl];exact Nat.le_trans (Gq (List.getElem_mem hl)) (hg t ht)
  omega
 have hlen:(gC ls g).length=ls.length:=List.length_map ..;refine ⟨⟨hlen,fun r hr=>?_,h64,fun r hr=>Nat.le_trans (hrow r hr) (by decide)⟩,?_⟩
 ·obtain ⟨t,_,rfl⟩:=List.mem_map.mp hr
  exact List.length_map ..
 ·have h1:=Dt.Em (R:=4096) (l:=(gC ls g).map (Dt.rs ls.length)) fun x hx=>by
   obtain ⟨r,hr,rfl⟩:=List.mem_map.mp hx;exact hrow r hr
  rw [List.length_map,hlen] at h1;have h2:4096 ^ ls.length<=4096 ^ 64:=Nat.pow_le_pow_right (by decide) h64;have h3:2*4096 ^ 64<Dt.md 7:=by decide +kernel
  exact Nat.lt_of_le_of_lt (Nat.mul_le_mul_left 2 (Nat.le_trans h1 h2)) h3
theorem tW {ts:List (List Nat)}(nd:ts.Nodup)(g:List Nat->List (List Nat)):Dt.det ts.length (Dt.ent (gC ts g))=((Dt.nC ts g:Nat):Int):=Dt.Lh nd g
def yY (C:Addr)(ad:Adr):Sp:=fun vs H Q E=>∃ (x tp:Addr) (n:Nat) (ms:List (List Nat)) (p:List Nat),vs=[.ref x,T p]∧jO C H x tp n ms∧iB ms n∧(¬ IsP ms p->∀ H',aM H H'->E (.ref ad.NoSuch) none H') ∧
 (IsP ms p->∀ (ps:List (List Nat)) (H':Hp),aM H H'->ps.length<=64->ps.Pairwise (fun a b=>¬ b<a)->ps.Nodup->(∀ z,z∈ps↔IsP ms z)->Q (.int (Dt.det (ps.filter fun o=>decide (o≠p)).length (Dt.ent (gC (ps.filter fun o=>decide (o≠p)) (bU ms))))) H')
theorem rJ {f:Addr}{fd:FuncData}(F:Fun K "tree_count" "tree_count" eV f fd)(tt:Txt K mg ad)(C_choices_counted:Cal P w K mg base (CX1 P w) "choices_counted" 4 ["ways"] (iJ K))(C_ways_toward:Cal P w K mg base (CX1 P w) "ways_toward" 3 ["web", "piece"] (kB ad.Web ad)) :
  cO P w K mg base (CX1 P w) 5 f fd ["web", "piece"] (yY ad.Web ad):=by
 refine F.okX rV (fun vs H Q E h=>?_) (fun cdv A outer s H vs Q E hr h=>?_)
 ·obtain ⟨x,tp,n,ms,p,rfl,_⟩:=h
  rfl
 ·obtain ⟨x,tp,n,ms,p,rfl,hW,hok,xn,q⟩:=h
  have hs:sizeLine=16777216:=sizeLine_eq;obtain ⟨hne,h64,⟨hn,hfew⟩,hxs,hnd⟩:=id hok;refine ⟨_,(aF (bD (aP C_choices_counted hr bL (aA (aP C_ways_toward hr jL (aA (pv 0) (aA (pv 1) aD))) aD)))),?_⟩
  (try rw [eF]);(try rw [cxK1])
  refine ⟨_,rfl,_,rfl,x,tp,n,ms,p,rfl,hW,hok,xn,fun hip D ps kvs H1 hD s1 hd1 hwa hlen62 hpw hpn hpm=>?_⟩;have hlen:ps.length<=64:=by omega
  have hfl:(ps.filter fun o=>decide (o≠p)).length<=64:=Nat.le_trans (List.length_filter_le ..) hlen;have hout:∀ o,(bU ms o).length<=64:=fun o=>Nat.le_trans (List.length_filter_le ..) (by omega)
  obtain ⟨hsq,hpl⟩:=pV (g:=bU ms) hfl fun o _=>hout o
  refine ⟨D,_,kvs,bU ms,rfl,hd1,hwa,⟨hfl,fun o _=>⟨by have:=hout o;omega,fun y hy=>?_⟩⟩,hsq,hpl,fun H' s'=>q hip ps H' (s1.trans s') hlen hpw hpn hpm⟩
  have:=(hxs y (List.mem_filter.mp hy).1).1
  omega
def Kp (D:Addr)(H H':Hp):Prop:=∀ b o,b≠D->H b=some o->H' b=some o
theorem mG {H:Hp}{g:List Nat->List (List Nat)}{ls:List (List Nat)}{kvs:List (Key×V)}(h:aS H g ls kvs){o:List Nat}(ho:o∉ls):fF kvs (Sum.inr (tx o))=none:=by
 induction h with
 | nil=>rfl
 | @cons o' a _ _ e _ ih =>
  rw [fT (fun z=>ho (by rw [fG (Sum.inr.inj z)];exact List.mem_cons_self ..))];exact ih fun z=>ho (List.mem_cons_of_mem _ z)
theorem aS.cong {H:Hp}{g g':List Nat->List (List Nat)}{ls:List (List Nat)}{kvs:List (Key×V)}(h:aS H g ls kvs)(e:∀ t∈ls,g t=g' t):aS H g' ls kvs:=by
 induction h with
 | nil=>exact .nil
 | @cons o a _ _ e1 _ ih=>exact .cons (by rw [<- e o (List.mem_cons_self ..)];exact e1) (ih fun t ht=>e t (List.mem_cons_of_mem _ ht))
theorem aS.repl {H:Hp}{g:List Nat->List (List Nat)}{ls:List (List Nat)}{kvs:List (Key×V)}{o:List Nat}{a:Addr}{new:List (List Nat)}(h:aS H g ls kvs)(nd:ls.Nodup)(ho:o∈ls)(e:H a=some (.lst (new.map T))) :
  aS H (fun x=>if x=o then new else g x) ls (cJ kvs (Sum.inr (tx o)) (.ref a)):=by
 have hy:(kvs.any fun kv=>decide (kv.1=Sum.inr (tx o)))=true:=by
  have h3:(Sum.inr (tx o):Key)∈kvs.map (·.1):=by rw [h.keys];exact List.mem_map_of_mem ho
  obtain ⟨kv,h1,h2⟩:=List.mem_map.mp h3;exact List.any_eq_true.mpr ⟨kv,h1,decide_eq_true h2⟩
 unfold cJ;rw [if_pos hy];clear hy;have no:∀ {ls:List (List Nat)} {kvs:List (Key×V)},aS H g ls kvs->o∉ls->aS H (fun x=>if x=o then new else g x) ls (kvs.map fun kv=>if kv.1=Sum.inr (tx o) then (kv.1,V.ref a) else kv):=fun {ls kvs} h=>by
  induction h with
  | nil=>intro _;exact .nil
  | @cons o' b _ _ e1 _ ih =>
   intro hn;have hne:o'≠o:=fun z=>hn (z▸List.mem_cons_self ..)
   rw [List.map_cons,if_neg (fun z=>hne (fG (Sum.inr.inj z)))];exact .cons (by rw [if_neg hne];exact e1) (ih fun z=>hn (List.mem_cons_of_mem _ z))
 induction h with
 | nil=>cases ho
 | @cons o' b _ _ e1 hr ih =>
  rw [List.nodup_cons] at nd;rw [List.map_cons];by_cases hoo:o'=o
  ·subst hoo
   rw [if_pos rfl];exact .cons (by rw [if_pos rfl];exact e) (no hr nd.1)
  ·rw [if_neg (fun z=>hoo (fG (Sum.inr.inj z)))]
   exact .cons (by rw [if_neg hoo];exact e1) (ih nd.2 ((List.mem_cons.mp ho).resolve_left (Ne.symm hoo)))
def Hr (p:List Nat)(D:Addr)(us ks:List (List Nat))(H:Hp):Prop:=∃ (kvs:List (Key×V)) (ls:List (List Nat)) (g:List Nat->List (List Nat)),H D=some (.dK kvs)∧aS H g ls kvs∧ls.Nodup∧ls.length<=2*us.length+ks.length∧(∀ t,t∈ls↔t≠p∧(IsP us t∨t∈ks))∧∀ t∈ls,(g t).Perm (us.filter fun l=>decide (beg l=t))∧(g t).Pairwise (fun a b=>¬ b<a)
def vJ (K:PySem.W.Frag):Sp:=fun vs H Q _=>∃ (b:Addr) (ms:List (List Nat)) (p:List Nat),vs=[.ref b,T p]∧SqL K H b (ms.map T)∧(ms.length<=60∧∀ x∈ms,1<=x.length∧x.length<=1000)∧∀ D H',H D=none->aM H H'->Hr p D ms [] H'->Q (.ref D) H'
theorem vD {f:Addr}{fd:FuncData}(F:Fun K "_law_ways" "_law_ways" fK f fd)(tt:Txt K mg ad):cO P w K mg base (CX1 P w) 1 f fd ["words", "piece"] (vJ K):=by
 refine F.okN gI (fun vs H Q E h=>?_) (fun cdv A outer s H vs Q E hr h=>?_)
 ·obtain ⟨b,ms,p,rfl,_⟩:=h
  rfl
 ·obtain ⟨b,ms,p,rfl,hS,⟨hl,hx⟩,q⟩:=h
  have hs:sizeLine=16777216:=sizeLine_eq;refine ⟨_,(aB (aJ (i:=2) gI.nd rfl (Or.inl rfl) lO)
   (aB (cM PassesOwn.never rfl (bW (pv 0)) (bO (i:=3) gI.nd rfl (Or.inl rfl)) (aB (cM PassesOwn.never rfl (bW (cU (aA (bC jS (pv 3) bR (bJ (jF gQ aG))) (aA (bC jS (pv 3) (bJ aG) bR) aD)))) (bO (i:=4) gI.nd rfl (Or.inl rfl)) (aF (bX (aO oM (pv 4) (pv 1) (aZ _)) (aF (eJ (oW (pv 2) (pv 4) (cU aD) ⟨rfl,rfl,rfl,rfl⟩))) aW)))
   (aF (bX (aO oM (bC jS (pv 3) bR (bJ (jF gQ aG))) (pv 1) (aZ _)) (aF (iZ (fO hr) (pv 2) (bC jS (pv 3) bR (bJ (jF gQ aG))) (aN lM (by rfl) tt.b_sorted PyProof.Rows.boot_sorted (aA (aL jZ (vF (fO hr) (pv 2) (bC jS (pv 3) bR (bJ (jF gQ aG))) (fun _ _=>rfl)) (cU (aA (pv 3) aD))) aD)) rfl)) aW))))
   (aF (bD (pv 2))))),?_⟩
  (try rw [eF]);(try rw [cxK1])
  refine fun D hD=>?_
  have sD:=aI (o:=.dK []) hD;have tolist:∀ {H'},Kp D H H'->SqL K H' b (ms.map T):=fun {H'} k=>SqL.keepTwo hS fun o e=>k b o (fun z=>by rw [z,hD] at e;cases e) e
  refine ⟨_,rfl,b,rfl,⟨_,sD.seq hS⟩,?_⟩;refine cT (K:=K) (a:=b) (xs:=ms.map T) (fun i σ H3=>Kp D H H3∧Hr p D (ms.take i) [] H3∧∃ v3 v4:Option V,σ=[some (.ref b),some (T p),some (.ref D),v3,v4]) ⟨fun b o _ e=>sD b o e,⟨[],[],fun _=>[],aC,.nil,List.nodup_nil,Nat.zero_le _,fun t=>⟨fun z=>(nomatch z),fun z=>z.2.elim (fun ⟨w,h,_⟩=>by rw [List.take_zero] at h;cases h) (fun h=>(nomatch h))⟩,fun t h=>(nomatch h)⟩,none,none,rfl⟩ (fun i σ H3 _ h=>tolist h.1) ?_ ?_
  ·rintro i y σ H3 hi ⟨k3,hw3,v3,v4,rfl⟩
   obtain ⟨x,hxi,rfl⟩:∃ x,ms[i]?=some x∧T x=y:=by rw [List.getElem?_map] at hi;exact Option.map_eq_some_iff.mp hi
   have hxx:=hx x (List.mem_of_getElem? hxi);have htk:ms.take (i+1)=ms.take i++[x]:=by rw [List.take_add_one,hxi];rfl
   have hil:(ms.take i).length<=60:=by rw [List.length_take];omega
   have cb:gB x none (some (-(1:Int)))=beg x:=iD hxx.1;have ce:gB x (some 1) none=x.drop 1:=iE (k:=1) hxx.1;refine ⟨_,rfl,_,rfl,_,rfl,_,rfl,(by omega),_,rfl,_,rfl,_,rfl,(by omega),(by show 2<=sizeLine;omega),fun l hl=>?_⟩;rw [cb,ce];have s4:=aI (o:=.lst [T (beg x),T (x.drop 1)]) hl;have hlD:l≠D:=fun z=>by obtain ⟨kvs,_,_,h,_⟩:=hw3;rw [z,h] at hl;cases hl
   have h4:upd H3 l (.lst [T (beg x),T (x.drop 1)]) l=some (.lst [T (beg x),T (x.drop 1)]):=aC;have hw4:Hr p D (ms.take i) [] (upd H3 l (.lst [T (beg x),T (x.drop 1)])):=by
    obtain ⟨kvs,ls,g,h1,h2,h3⟩:=hw3;exact ⟨kvs,ls,g,s4 D _ h1,h2.mono s4,h3⟩
   generalize upd H3 l (.lst [T (beg x),T (x.drop 1)])=H4 at s4 h4 hw4;refine ⟨l,rfl,⟨_,SqL.of h4⟩,?_⟩;refine cT (K:=K) (a:=l) (xs:=[beg x,x.drop 1].map T) (fun j σ H5=>Kp D H4 H5∧Hr p D (ms.take i) ([beg x,x.drop 1].take j) H5∧∃ v4:Option V,σ=[some (.ref b),some (T p),some (.ref D),some (T x),v4]) ⟨fun b o _ e=>e,hw4,v4,rfl⟩ (fun j σ H5 _ h=>SqL.of (h.1 l _ hlD h4)) ?_ ?_
   ·rintro j y σ H5 hj ⟨k5,hw5,v4,rfl⟩
    obtain ⟨o,ho,rfl⟩:∃ o,[beg x,x.drop 1][j]?=some o∧T o=y:=by rw [List.getElem?_map] at hj;exact Option.map_eq_some_iff.mp hj
    have htj:[beg x,x.drop 1].take (j+1)=[beg x,x.drop 1].take j++[o]:=by rw [List.take_add_one,ho];rfl
    have hjl:([beg x,x.drop 1].take j).length<=2:=by rw [List.length_take];exact Nat.min_le_right _ _
    obtain ⟨kvs,ls,g,hd5,hwa,nd,hll,hm,hg⟩:=hw5;refine ⟨_,rfl,_,rfl,_,rfl,_,rfl,_,rfl,?_⟩;by_cases hop:o=p
    ·refine itN (by rw [decide_eq_true hop];exact Bool.false_ne_true) ?_
     refine ⟨k5,⟨kvs,ls,g,hd5,hwa,nd,by rw [htj,List.length_append];omega,fun t=>?_,hg⟩,some (T o),rfl⟩;rw [hm,htj,List.mem_append,List.mem_singleton];constructor
     ·rintro ⟨h1,h2 | h2⟩
      ·exact ⟨h1,.inl h2⟩
      ·exact ⟨h1,.inr (.inl h2)⟩
     ·rintro ⟨h1,h2 | h2 | h2⟩
      ·exact ⟨h1,.inl h2⟩
      ·exact ⟨h1,.inr h2⟩
      ·exact absurd (h2.trans hop) h1
    ·refine itP (by rw [decide_eq_false hop];rfl) ?_
     refine ⟨_,rfl,D,rfl,⟨_,hd5⟩,_,rfl,(by show 0<=sizeLine;omega),fun e he=>?_⟩;have s6:=aI (o:=.lst []) he;refine ⟨kvs,Sum.inr (tx o),s6 D _ hd5,rfl,by rw [hwa.len];omega,fun v hv=>?_,fun hn=>?_⟩
     ·have hol:o∈ls:=Decidable.byContradiction fun z=>by rw [mG hwa z] at hv;cases hv
      refine ⟨fun b o' hb e'=>s6 b o' (k5 b o' hb e'),⟨kvs,ls,g,s6 D _ hd5,hwa.mono s6,nd,by rw [htj,List.length_append];omega,fun t=>?_,hg⟩,some (T o),rfl⟩;rw [hm,htj,List.mem_append,List.mem_singleton];constructor
      ·rintro ⟨h1,h2 | h2⟩
       ·exact ⟨h1,.inl h2⟩
       ·exact ⟨h1,.inr (.inl h2)⟩
      ·rintro ⟨h1,h2 | h2 | h2⟩
       ·exact ⟨h1,.inl h2⟩
       ·exact ⟨h1,.inr h2⟩
       ·rw [h2];exact (hm o).mp hol
     ·have hol:o∉ls:=fun z=>by obtain ⟨a,h1,_⟩:=hwa.get z;rw [h1] at hn;cases hn
      have heD:e≠D:=fun z=>by rw [z,hd5] at he;cases he
      have hw6:aS (upd H5 e (.lst [])) (fun t=>if t=o then [] else g t) ls kvs:=(hwa.mono s6).cong fun t ht=>by have hne:t≠o:=fun z=>hol (z▸ht);rw [if_neg hne]
      have hw7:=(hw6.put hol (a:=e) (by rw [if_pos rfl];exact aC)).updD (o:=.dK (cJ kvs (Sum.inr (tx o)) (.ref e))) (s6 D _ hd5);refine ⟨fun b o' hb e'=>by rw [aH hb];exact s6 b o' (k5 b o' hb e'),⟨_,ls++[o],_,aC,hw7,?_,by rw [htj,List.length_append,List.length_append];show _+1<=_+(_+1);omega,fun t=>?_,fun t ht=>?_⟩,some (T o),rfl⟩
      ·exact List.nodup_append.mpr ⟨nd,by simp,fun a ha c hc z=>hol (by rw [<- List.mem_singleton.mp hc,<- z];exact ha)⟩
      ·rw [List.mem_append,hm,htj,List.mem_append,List.mem_singleton]
       constructor
       ·rintro (⟨h1,h2 | h2⟩ | h2)
        ·exact ⟨h1,.inl h2⟩
        ·exact ⟨h1,.inr (.inl h2)⟩
        ·exact ⟨h2▸hop,.inr (.inr h2)⟩
       ·rintro ⟨h1,h2 | h2 | h2⟩
        ·exact .inl ⟨h1,.inl h2⟩
        ·exact .inl ⟨h1,.inr h2⟩
        ·exact .inr h2
      ·rcases List.mem_append.mp ht with z | z
       ·have hne:t≠o:=fun e=>hol (e▸z)
        rw [if_neg hne];exact hg t z
       ·have z:=List.mem_singleton.mp z
        subst z;rw [if_pos rfl];refine ⟨?_,List.Pairwise.nil⟩;rw [List.filter_eq_nil_iff.mpr fun u hu e=>hol ((hm t).mpr ⟨hop,.inl ⟨u,hu,.inl (of_decide_eq_true e).symm⟩⟩)]
   ·rintro σ H5 ⟨k5,hw5,v4,rfl⟩
    have hw5:Hr p D (ms.take i) [beg x,x.drop 1] H5:=hw5;obtain ⟨kvs,ls,g,hd5,hwa,nd,hll,hm,hg⟩:=hw5;have hll':ls.length<=2*(ms.take i).length+2:=hll;have k5':Kp D H H5:=fun b o hb e=>k5 b o hb (s4 b o (k3 b o hb e))
    have hmem:∀ t,t∈ls↔t≠p∧(IsP (ms.take (i+1)) t∨t∈([]:List (List Nat))):=fun t=>by
     rw [hm,htk];constructor
     ·rintro ⟨h1,⟨u,h2,h3⟩ | h2⟩
      ·exact ⟨h1,.inl ⟨u,List.mem_append_left _ h2,h3⟩⟩
      ·refine ⟨h1,.inl ⟨x,List.mem_append_right _ (List.mem_singleton.mpr rfl),?_⟩⟩
       rcases List.mem_cons.mp h2 with z | z
       ·exact .inl z
       ·exact .inr (List.mem_singleton.mp z)
     ·rintro ⟨h1,⟨u,h2,h3⟩ | h2⟩
      ·rcases List.mem_append.mp h2 with z | z
       ·exact ⟨h1,.inl ⟨u,z,h3⟩⟩
       ·rw [List.mem_singleton.mp z] at h3
        exact ⟨h1,.inr (h3.elim (fun e=>e▸List.mem_cons_self ..) fun e=>e▸List.mem_cons_of_mem _ (List.mem_cons_self ..))⟩
      ·cases h2
    have hl2:ls.length<=2*(ms.take (i+1)).length+([]:List (List Nat)).length:=by
     rw [htk,List.length_append];show _<=2*(_+1)+0
     have:([beg x,x.drop 1]:List (List Nat)).length=2:=rfl
     omega
    refine ⟨_,rfl,_,rfl,_,rfl,_,rfl,(by omega),_,rfl,_,rfl,_,rfl,_,rfl,?_⟩;rw [cb];by_cases hop:beg x=p
    ·refine itN (by rw [decide_eq_true hop];exact Bool.false_ne_true) ?_
     refine ⟨k5',⟨kvs,ls,g,hd5,hwa,nd,hl2,hmem,fun t ht=>?_⟩,_,_,rfl⟩;rw [htk,List.filter_append,List.filter_cons_of_neg (by intro z;exact ((hm t).mp ht).1 ((of_decide_eq_true z).symm.trans hop)),List.filter_nil,List.append_nil];exact hg t ht
    ·refine itP (by rw [decide_eq_false hop];rfl) ?_
     have hbl:beg x∈ls:=(hm _).mpr ⟨hop,.inr (List.mem_cons_self ..)⟩;obtain ⟨a,ha1,ha2⟩:=hwa.get hbl;have hgl:(g (beg x)).length<=60:=by rw [(hg _ hbl).1.length_eq];exact Nat.le_trans (List.length_filter_le ..) hil
     refine ⟨_,rfl,_,rfl,_,rfl,_,rfl,_,rfl,(by omega),D,_,rfl,(by rw [cb];have z:=jT.k (k:=Sum.inr (tx (beg x))) hd5;rw [ha1] at z;exact z),_,rfl,(by show 1<=sizeLine;omega),fun e he=>?_⟩;have s6:=aI (o:=.lst [T x]) he;refine ⟨a,e,_,_,rfl,rfl,SqL.of (s6 a _ ha2),SqL.of aC,(by rw [List.length_map];show _+1<=sizeLine;omega),fun e2 he2=>?_⟩;have s7:=s6.trans (aI (o:=.lst ((g (beg x)).map T++[T x])) he2);refine ⟨e2,g (beg x)++[x],rfl,SqL.of (by rw [List.map_append];exact aC),(by rw [List.length_append];show _+1<64;omega),fun so e3 he3 hp3 hw3=>?_⟩;have s8:=s7.trans (aI (o:=.lst (so.map T)) he3);have h8:upd (upd (upd H5 e (.lst [T x])) e2 (.lst ((g (beg x)).map T++[T x]))) e3 (.lst (so.map T)) e3=some (.lst (so.map T)):=aC;generalize upd (upd (upd H5 e (.lst [T x])) e2 (.lst ((g (beg x)).map T++[T x]))) e3 (.lst (so.map T))=H8 at s8 h8;refine ⟨_,rfl,_,rfl,_,rfl,_,rfl,_,rfl,(by omega),D,_,rfl,(by rw [cb];exact pW.k (k:=Sum.inr (tx (beg x))) (s8 D _ hd5) (by rw [hwa.len];omega)),?_⟩;have hw9:=((hwa.mono s8).repl nd hbl h8).updD (o:=.dK (cJ kvs (Sum.inr (tx (beg x))) (.ref e3))) (s8 D _ hd5);refine ⟨fun b o hb e'=>by rw [aH hb];exact s8 b o (k5' b o hb e'),⟨_,ls,_,aC,hw9,nd,hl2,hmem,fun t ht=>?_⟩,_,_,rfl⟩;rw [htk,List.filter_append];by_cases htb:t=beg x
     ·subst htb
      rw [if_pos rfl,List.filter_cons_of_pos (p:=fun l=>decide (beg l=beg x)) (decide_eq_true rfl),List.filter_nil];exact ⟨hp3.trans ((hg _ hbl).1.append_right _),hw3⟩
     ·rw [if_neg htb,List.filter_cons_of_neg (by intro z;exact htb (of_decide_eq_true z).symm),List.filter_nil,List.append_nil]
      exact hg t ht
  ·rintro σ H3 ⟨k3,hw3,v3,v4,rfl⟩
   rw [List.length_map,List.take_length] at hw3;exact ⟨_,rfl,q D H3 hD (fun b o e=>k3 b o (aK e hD) e) hw3⟩
theorem Bc {t:List Nat}{v:V}:∀ {ls:List (List Nat)},fF (tKs ls v) (Sum.inr (tx t))=if t∈ls then some v else none
 | []=>by simp [tKs,fF]
 | l::ls=>by
  have ih:=@Bc t v ls;unfold tKs fF at ih ⊢;rw [List.map_cons,List.find?_cons];by_cases e:l=t
  ·subst e
   simp
  ·have e2:¬ (Sum.inr (tx l):Key)=Sum.inr (tx t):=fun z=>e (fG (Sum.inr.inj z))
   have e3:¬ t=l:=fun z=>e z.symm
   simp only [e2,decide_false,List.mem_cons,e3,false_or];exact ih
theorem Jl {t:List Nat}{v:V}{ls:List (List Nat)}:cJ (tKs ls v) (Sum.inr (tx t)) v=tKs (Hg.Me ls t) v:=by
 have e:((tKs ls v).any fun kv=>decide (kv.1=Sum.inr (tx t)))=decide (t∈ls):=by
  rw [Bool.eq_iff_iff,List.any_eq_true,decide_eq_true_iff];constructor
  ·rintro ⟨kv,h1,h2⟩
   obtain ⟨l,hl,rfl⟩:=List.mem_map.mp h1
   have:=fG (Sum.inr.inj (of_decide_eq_true h2))
   exact this▸hl
  ·exact fun h=>⟨_,List.mem_map_of_mem h,decide_eq_true rfl⟩
 unfold cJ Hg.Me;rw [e];by_cases h:t∈ls
 ·rw [if_pos (decide_eq_true h),if_pos h]
  conv=>rhs;rw [<- List.map_id (tKs ls v)]
  refine List.map_congr_left fun kv hkv=>?_
  obtain ⟨l,_,rfl⟩:=List.mem_map.mp hkv;split
  ·rfl
  ·rfl
 ·rw [if_neg (by rw [decide_eq_false h];exact Bool.false_ne_true),if_neg h]
  unfold tKs;rw [List.map_append];rfl
theorem Ah (ls:List (List Nat))(v:V):(tKs ls v).length=ls.length:=by unfold tKs;rw [List.length_map]
theorem aS.app {G:Hp}{g:List Nat->List (List Nat)}{ts:List (List Nat)}{kvs:List (Key×V)}{t x:List Nat}{b:Addr}(h:aS G g ts kvs):ts.Nodup->(kvs.map (·.2)).Nodup->t∈ts->fF kvs (Sum.inr (tx t))=some (.ref b)->aS (upd G b (.lst ((g t++[x]).map T))) (fun u=>if u=t then g t++[x] else g u) ts kvs:=by
 have vm:∀ {kvs:List (Key×V)} {k:Key} {v:V},fF kvs k=some v->v∈kvs.map (·.2):=fun {kvs k v}=>by
  induction kvs with
  | nil=>intro e;cases e
  | cons kv kvs ih =>
   intro e;obtain ⟨k',v'⟩:=kv;by_cases hk:k'=k
   ·rw [fZ hk] at e
    cases e;exact List.mem_cons_self ..
   ·rw [fT hk] at e
    exact List.mem_cons_of_mem _ (ih e)
 have no:∀ {ts:List (List Nat)} {kvs:List (Key×V)},aS G g ts kvs->t∉ts->V.ref b∉kvs.map (·.2)->aS (upd G b (.lst ((g t++[x]).map T))) (fun u=>if u=t then g t++[x] else g u) ts kvs:=fun {ts kvs} h=>by
  induction h with
  | nil=>intro _ _;exact .nil
  | @cons o a _ _ e _ ih =>
   intro h1 h2;have hne:o≠t:=fun z=>h1 (z▸List.mem_cons_self ..)
   have hab:a≠b:=fun z=>h2 (z▸List.mem_cons_self ..)
   exact .cons (by rw [aH hab,if_neg hne];exact e) (ih (fun z=>h1 (List.mem_cons_of_mem _ z)) fun z=>h2 (List.mem_cons_of_mem _ z))
 induction h with
 | nil=>intro _ _ h;cases h
 | @cons o a _ _ e hr ih =>
  intro nd nv ht hv;rw [List.nodup_cons] at nd;rw [List.map_cons,List.nodup_cons] at nv;by_cases hot:o=t
  ·subst hot
   rw [fZ rfl] at hv;cases hv;exact .cons (by rw [aC,if_pos rfl]) (no hr nd.1 nv.1)
  ·rw [fT (fun z=>hot (fG (Sum.inr.inj z)))] at hv
   have hab:a≠b:=fun z=>nv.1 (z▸vm hv)
   exact .cons (by rw [aH hab,if_neg hot];exact e) (ih nd.2 nv.2 ((List.mem_cons.mp ht).resolve_left (Ne.symm hot)) hv)
def cg (us:List (List Nat))(t:List Nat):List (List Nat):=(us.filter fun w=>decide (w.drop 1=t)).map beg
theorem An {us:List (List Nat)}{x t:List Nat}:cg (us++[x]) t=if t=x.drop 1 then cg us t++[beg x] else cg us t:=by
 unfold cg;rw [List.filter_append,List.map_append];by_cases h:t=x.drop 1
 ·rw [if_pos h,List.filter_cons_of_pos (p:=fun w:List Nat=>decide (w.drop 1=t)) (decide_eq_true h.symm),List.filter_nil]
  rfl
 ·rw [if_neg h,List.filter_cons_of_neg (p:=fun w:List Nat=>decide (w.drop 1=t)) (fun z=>h (of_decide_eq_true z).symm),List.filter_nil,List.map_nil,List.append_nil]
theorem yR {us:List (List Nat)}{t z:List Nat}:z∈cg us t↔∃ w∈us,w.drop 1=t∧beg w=z:=by
 unfold cg;rw [List.mem_map];constructor
 ·rintro ⟨w,h1,h2⟩
  obtain ⟨h3,h4⟩:=List.mem_filter.mp h1;exact ⟨w,h3,of_decide_eq_true h4,h2⟩
 ·rintro ⟨w,h1,h2,h3⟩
  exact ⟨w,List.mem_filter.mpr ⟨h1,decide_eq_true h2⟩,h3⟩
def Bj (us:List (List Nat))(p:List Nat)(fs:List (List Nat)):Prop:=∀ χ:List Nat->Prop,χ p->(∀ w∈us,χ (w.drop 1)->χ (beg w))->∀ k∈fs,χ k
def zQ (K:PySem.W.Frag):Sp:=fun vs H Q _=>∃ (a:Addr) (us:List (List Nat)) (p:List Nat),vs=[.ref a,T p]∧SqA K H a (us.map T)∧(us.length<=1000∧∀ x∈us,1<=x.length∧x.length<=1000)∧∀ (D:Addr) (fs:List (List Nat)) (H':Hp),H D=none->aM H H'->H' D=some (.dK (tKs fs (.bl true)))->fs.Nodup->p∈fs->(∀ w∈us,w.drop 1∈fs->beg w∈fs)->Bj us p fs->Q (.ref D) H'
theorem vQ {f:Addr}{fd:FuncData}(F:Fun K "coming_to" "coming_to" fH f fd)(tt:Txt K mg ad)(C_end_of:Cal P w K mg base (CX1 P w) "end_of" 1 ["word"] xV)(C_begin_of:Cal P w K mg base (CX1 P w) "begin_of" 1 ["word"] iO):cO P w K mg base (CX1 P w) 2 f fd ["words", "piece"] (zQ K):=by
 refine F.okN dW (fun vs H Q E h=>?_) (fun cdv A outer s H vs Q E hr h=>?_)
 ·obtain ⟨a,ms,p,rfl,_⟩:=h
  rfl
 ·obtain ⟨a,ms,p,rfl,hS,⟨hl,hx⟩,q⟩:=h
  have hs:sizeLine=16777216:=sizeLine_eq;have hu:=Nat.lt_of_succ_lt (fO hr);refine ⟨_,(aB (aJ (i:=2) dW.nd rfl (Or.inl rfl) lO)
   (aB (cM PassesOwn.never rfl (oJ K rfl (pv 0)) (bO (i:=3) dW.nd rfl (Or.inl rfl)) (aF (eJ (lR PySem.F.plainAttrs_list PySem.F.slot_list_append PySem.F.type_list_append eU (oW (pv 2) (aP C_end_of hr bL (aA (pv 3) aD)) (cU aD) ⟨rfl,rfl,rfl,rfl⟩) (aA (aP C_begin_of hr bL (aA (pv 3) aD)) aD)))))
   (aB (aJ (i:=4) dW.nd rfl (Or.inl rfl) (Jg (Fa (pv 1) kL Iv) rfl rfl (fun z=>nomatch z) (by decide)))
   (aB (aJ (i:=5) dW.nd rfl (Or.inl rfl) (cU (aA (pv 1) aD)))
   (aB (jH PassesOwn.never (aO (pG hu) (pv 5) (cU aD) (aZ _)) (aB (aJ (i:=6) dW.nd rfl (Or.inl rfl) (Lv PySem.F.plainAttrs_list PySem.F.slot_list_pop PySem.F.type_list_pop Ll (pv 5)))
   (aF (cM PassesOwn.never rfl (bW (Hh (fO hr) (pv 2) (pv 6) (cU aD) ⟨rfl,rfl,rfl,rfl⟩)) (bO (i:=7) dW.nd rfl (Or.inl rfl)) (aF (bX (qB (Cp (fO hr) (pv 7) (pv 4))) (aB (iZ (fO hr) (pv 4) (pv 7) kL rfl)
   (aF (eJ (lR PySem.F.plainAttrs_list PySem.F.slot_list_append PySem.F.type_list_append eU (pv 5) (aA (pv 7) aD))))) aW))))))
   (aF (bD (pv 4)))))))),?_⟩
  (try rw [eF]);(try rw [cxK1])
  refine fun D hD=>?_
  have sD:=aI (o:=.dK []) hD;refine ⟨_,rfl,a,ms.map T,_,rfl,hS,sD,fun J rd=>?_⟩;refine sJ rd (fun i σ G=>aM H G∧∃ (kvs:List (Key×V)) (ts:List (List Nat)) (v2:Option V),G D=some (.dK kvs)∧aS G (cg (ms.take i)) ts kvs∧ts.Nodup∧(kvs.map (·.2)).Nodup∧(∀ b,V.ref b∈kvs.map (·.2)->H b=none)∧ts.length<=i∧(∀ t,t∈ts↔∃ x∈ms.take i,(x.drop 1)=t)∧σ=[some (.ref a),some (T p),some (.ref D),v2,none,none,none,none])
   ⟨sD,[],[],none,aC,.nil,List.nodup_nil,List.nodup_nil,fun b h=>(nomatch h),Nat.le_refl _,fun t=>⟨fun h=>(nomatch h),fun ⟨x,h,_⟩=>by rw [List.take_zero] at h;cases h⟩,rfl⟩ (fun i σ G _ h=>h.1) ?_ ?_
  ·rintro i y σ G hi ⟨sG,kvs,ts,v2,hd,hwa,nd,nv,hf,hlt,hm,rfl⟩
   obtain ⟨x,hxi,rfl⟩:∃ x,ms[i]?=some x∧T x=y:=by rw [List.getElem?_map] at hi;exact Option.map_eq_some_iff.mp hi
   have hil:=(List.getElem?_eq_some_iff.mp hxi).1;have hxx:=hx x (List.mem_of_getElem? hxi);have htk:ms.take (i+1)=ms.take i++[x]:=by rw [List.take_add_one,hxi];rfl
   have hm2:∀ t,(∃ y∈ms.take (i+1),y.drop 1=t)↔(∃ y∈ms.take i,y.drop 1=t)∨t=(x.drop 1):=fun t=>by
    rw [htk];constructor
    ·rintro ⟨y,h1,h2⟩
     rcases List.mem_append.mp h1 with z | z
     ·exact .inl ⟨y,z,h2⟩
     ·rw [List.mem_singleton.mp z] at h2
      exact .inr h2.symm
    ·rintro (⟨y,h1,h2⟩ | h)
     ·exact ⟨y,List.mem_append_left _ h1,h2⟩
     ·exact ⟨x,List.mem_append_right _ (List.mem_singleton.mpr rfl),h.symm⟩
   have hgl:∀ t,(cg (ms.take i) t).length<=1000:=fun t=>by
    unfold cg;rw [List.length_map];exact Nat.le_trans (List.length_filter_le ..) (by rw [List.length_take];omega)
   refine ⟨_,rfl,D,rfl,⟨_,hd⟩,_,rfl,x,rfl,⟨hxx.1,hxx.2⟩,(by show 0<=sizeLine;omega),fun e he=>?_⟩;have s1:=aI (o:=.lst []) he;have h1:upd G e (.lst []) e=some (.lst []):=aC;have heH:H e=none:=eS sG he;have heD:e≠D:=fun z=>by rw [z,hd] at he;cases he
   have hd1:=s1 D _ hd;have hwa1:=hwa.mono s1;have sG1:=sG.trans s1;have hev:V.ref e∉kvs.map (·.2):=fun z=>by
    have key:∀ {ts:List (List Nat)} {kvs:List (Key×V)},aS G (cg (ms.take i)) ts kvs->V.ref e∉kvs.map (·.2):=fun {ts kvs} h=>by
     induction h with
     | nil=>intro z;cases z
     | @cons o a' _ _ e1 _ ih =>
      intro z;rcases List.mem_cons.mp z with z | z
      ·cases z;rw [he] at e1;cases e1
      ·exact ih z
    exact key hwa z
   generalize upd G e (.lst [])=G1 at s1 h1 hd1 hwa1 sG1;refine ⟨kvs,Sum.inr (tx ((x.drop 1))),hd1,rfl,by rw [hwa.len];omega,fun v hv=>?_,fun hn=>?_⟩
   ·have hol:(x.drop 1)∈ts:=Decidable.byContradiction fun z=>by rw [mG hwa z] at hv;cases hv
    obtain ⟨b,hb1,hb2⟩:=hwa1.get hol;obtain rfl:v = .ref b:=by rw [hb1] at hv;exact (Option.some.inj hv).symm
    have hbH:=hf b (by
     have vm:∀ {kvs:List (Key×V)} {k:Key} {v:V},fF kvs k=some v->v∈kvs.map (·.2):=fun {kvs k v}=>by
      induction kvs with
      | nil=>intro e;cases e
      | cons kv kvs ih =>
       intro e;obtain ⟨k',v'⟩:=kv;by_cases hk:k'=k
       ·rw [fZ hk] at e;cases e;exact List.mem_cons_self ..
       ·rw [fT hk] at e;exact List.mem_cons_of_mem _ (ih e)
     exact vm hv)
    have hbD:b≠D:=fun z=>by rw [z,hd1] at hb2;cases hb2
    refine ⟨.inl ⟨rfl,_,SqL.of hb2⟩,_,rfl,x,rfl,⟨hxx.1,hxx.2⟩,b,_,_,rfl,rfl,hb2,(by rw [List.length_map];have:=hgl ((x.drop 1));omega),?_⟩;have hw2:=hwa1.app (x:=beg x) nd nv hol hb1;refine ⟨fun b' o e'=>by rw [aH (fun z=>by rw [z,hbH] at e';cases e')];exact sG1 b' o e',kvs,ts,_,by rw [aH hbD.symm];exact hd1,?_,nd,nv,hf,by omega,fun t=>?_,rfl⟩
    ·rw [List.map_append] at hw2
     refine hw2.cong fun t _=>?_
     rw [htk,An];by_cases z:t=(x.drop 1)
     ·rw [if_pos z,if_pos z,z]
     ·rw [if_neg z,if_neg z]
    ·rw [hm2,hm]
     exact ⟨.inl,fun h=>h.elim id fun z=>z▸(hm _).mp hol⟩
   ·have hol:(x.drop 1)∉ts:=fun z=>by obtain ⟨a,h1,_⟩:=hwa1.get z;rw [h1] at hn;cases hn
    have hep:upd G1 D (.dK (cJ kvs (Sum.inr (tx ((x.drop 1)))) (.ref e))) e=some (.lst []):=by rw [aH heD];exact h1
    refine ⟨.inl ⟨rfl,_,SqL.of hep⟩,_,rfl,x,rfl,⟨hxx.1,hxx.2⟩,e,_,_,rfl,rfl,hep,(by show 0<sizeLine;omega),?_⟩;have hpk:cJ kvs (Sum.inr (tx ((x.drop 1)))) (.ref e)=kvs++[(Sum.inr (tx ((x.drop 1))),.ref e)]:=by
     unfold cJ;rw [if_neg];intro z;obtain ⟨kv,z1,z2⟩:=List.any_eq_true.mp z;have h3:kv.1∈kvs.map (·.1):=List.mem_map_of_mem z1;rw [hwa.keys,of_decide_eq_true z2] at h3;obtain ⟨t,h4,h5⟩:=List.mem_map.mp h3;exact hol (fG (Sum.inr.inj h5)▸h4)
    have og0:cg (ms.take i) (x.drop 1)=[]:=by
     unfold cg;rw [List.filter_eq_nil_iff.mpr fun u hu z=>hol ((hm _).mpr ⟨u,hu,of_decide_eq_true z⟩)];rfl
    have hne:∀ b' o,H b'=some o->b'≠e∧b'≠D:=fun b' o e'=>⟨fun z=>(by rw [z,heH] at e';cases e'),fun z=>(by rw [z,hD] at e';cases e')⟩
    refine ⟨fun b' o e'=>by rw [aH (hne b' o e').1,aH (hne b' o e').2];exact sG1 b' o e',_,ts++[(x.drop 1)],_,by rw [aH heD.symm];exact aC,?_,?_,?_,?_,by rw [List.length_append];show _+1<=_;omega,fun t=>?_,rfl⟩
    ·have hw2:aS (upd (upd G1 D (.dK (cJ kvs (Sum.inr (tx ((x.drop 1)))) (.ref e)))) e (.lst ([]++[T (beg x)]))) (fun t=>if t=(x.drop 1) then [beg x] else cg (ms.take i) t) ts kvs:=by
      have hw3:=hwa1.updD (o:=.dK (cJ kvs (Sum.inr (tx ((x.drop 1)))) (.ref e))) hd1;have key:∀ {G':Hp} {ts:List (List Nat)} {kvs:List (Key×V)},aS G' (cg (ms.take i)) ts kvs->V.ref e∉kvs.map (·.2)->(x.drop 1)∉ts->aS (upd G' e (.lst ([]++[T (beg x)]))) (fun t=>if t=(x.drop 1) then [beg x] else cg (ms.take i) t) ts kvs:=fun {G' ts kvs} h=>by
       induction h with
       | nil=>intro _ _;exact .nil
       | @cons o a' _ _ e1 _ ih =>
        intro z1 z2;have n1:a'≠e:=fun z=>z1 (z▸List.mem_cons_self ..)
        have n2:o≠(x.drop 1):=fun z=>z2 (z▸List.mem_cons_self ..)
        exact .cons (by rw [aH n1,if_neg n2];exact e1) (ih (fun z=>z1 (List.mem_cons_of_mem _ z)) fun z=>z2 (List.mem_cons_of_mem _ z))
      exact key hw3 hev hol
     rw [hpk];rw [hpk] at hw2;refine (hw2.snoc (a:=e) (by rw [aC,if_pos rfl];rfl)).cong fun t _=>?_
     rw [htk,An];by_cases z:t=(x.drop 1)
     ·rw [if_pos z,if_pos z,z,og0];rfl
     ·rw [if_neg z,if_neg z]
    ·exact List.nodup_append.mpr ⟨nd,by simp,fun a' ha c hc z=>hol (by rw [<- List.mem_singleton.mp hc,<- z];exact ha)⟩
    ·rw [hpk,List.map_append]
     exact List.nodup_append.mpr ⟨nv,by simp,fun a' ha c hc z=>hev (by have hc:c=V.ref e:=List.mem_singleton.mp hc;rw [<- hc,<- z];exact ha)⟩
    ·intro b hb
     rw [hpk,List.map_append] at hb;rcases List.mem_append.mp hb with z | z
     ·exact hf b z
     ·have z:V.ref b=V.ref e:=List.mem_singleton.mp z
      cases z;exact heH
    ·rw [hm2,List.mem_append,hm,List.mem_singleton]
  ·rintro σ G ⟨sG,kvs,ts,v2,hd,hwa,nd,nv,hf,hlt,hm,rfl⟩
   rw [List.length_map,List.take_length] at hwa;rw [List.length_map,List.take_length] at hm;intro D2 hD2;refine ⟨_,rfl,aC,[(Sum.inr (tx p),.bl true)],rfl,(by show 1<=15;decide),?_⟩;have e1:upd (upd G D2 (.dK [])) D2 (.dK (mV [] [(Sum.inr (tx p),.bl true)]))=upd G D2 (.dK (tKs [p] (.bl true))):=by
    rw [Bb];rfl
   rw [e1];have s2:=aI (o:=.dK (tKs [p] (.bl true))) hD2;refine ⟨_,rfl,(by show 1<=sizeLine;omega),fun Wt hWt=>?_⟩;have s3:=aI (o:=.lst [T p]) hWt;have hWD:Wt≠D2:=fun z=>by rw [z,aC] at hWt;cases hWt
   have hDD2:D≠D2:=fun z=>by rw [z,hD2] at hd;cases hd
   have hDH2:H D2=none:=eS sG hD2;have hWH:H Wt=none:=eS (sG.trans s2) hWt;have hbnd:∀ fs:List (List Nat),fs.Nodup->Bj ms p fs->fs.length<=ms.length+1:=fun fs hn hle=>by
    have h1:=Dt.oN (b:=p::ms.map beg) hn (hle (fun k=>k∈p::ms.map beg) (List.mem_cons_self ..) fun w hw _=>List.mem_cons_of_mem _ (List.mem_map_of_mem hw));rw [List.length_cons,List.length_map] at h1;exact h1
   have hdG:=s3 D _ (s2 D _ hd);have hwaG:=(hwa.mono s2).mono s3;have hd2G:upd (upd G D2 (.dK (tKs [p] (.bl true)))) Wt (.lst [T p]) D2=some (.dK (tKs [p] (.bl true))):=by rw [aH hWD.symm];exact aC
   generalize hG3:upd (upd G D2 (.dK (tKs [p] (.bl true)))) Wt (.lst [T p])=G3 at hdG hwaG hd2G;have hwG:G3 Wt=some (.lst ([p].map T)):=by rw [<- hG3];exact aC
   have sG3:aM H G3:=by rw [<- hG3];exact sG.trans (s2.trans s3)
   refine ⟨fun m σ G2=>∃ (fs wl:List (List Nat)) (v6 v7:Option V),m+2*fs.length=2*(ms.length+1)+wl.length∧aM H G2∧(∀ b o,b≠D2->b≠Wt->G3 b=some o->G2 b=some o)∧G2 D2=some (.dK (tKs fs (.bl true)))∧G2 Wt=some (.lst (wl.map T))∧fs.Nodup∧p∈fs∧(∀ z∈wl,z∈fs)∧Bj ms p fs∧(∀ w∈ms,w.drop 1∈fs->w.drop 1∈wl∨beg w∈fs)∧wl.length<=fs.length∧σ=[some (.ref a),some (T p),some (.ref D),v2,some (.ref D2),some (.ref Wt),v6,v7],
    ⟨2*ms.length+1,[p],[p],none,none,by show 2*ms.length+1+2*1=2*(ms.length+1)+1;omega,sG3,fun b o _ _ e=>e,hd2G,hwG,by simp,by simp,fun z hz=>hz,fun χ h1 _ k hk=>by rw [List.mem_singleton.mp hk];exact h1,fun w _ h=>.inl h,Nat.le_refl _,rfl⟩,?_⟩
   rintro m σ G2 ⟨fs,wl,v6,v7,hmm,sG2,kp,hf2,hw2,hfn,hpf,hwf,hle,hcl,hwfl,rfl⟩;refine ⟨_,rfl,(by show 0<=sizeLine;omega),fun E0 hE0=>?_⟩;have tE:=aI (o:=.lst []) hE0;refine ⟨Wt,E0,wl,[],rfl,rfl,SqL.of (tE Wt _ hw2),SqL.of aC,_,rfl,?_⟩;by_cases hwe:wl=[]
   ·subst hwe
    refine itN (by rw [decide_eq_true rfl];exact Bool.false_ne_true) ?_;refine ⟨_,rfl,?_⟩;exact q D2 fs _ hDH2 (sG2.trans tE) (tE D2 _ hf2) hfn hpf (fun w hw h=>(hcl w hw h).resolve_left (by simp)) hle
   ·refine itP (by rw [decide_eq_false hwe];rfl) ?_
    refine ⟨_,fun σ' H' z=>z,?_⟩;obtain ⟨wl',z,rfl⟩:∃ wl' z,wl=wl'++[z]:=⟨wl.dropLast,wl.getLast hwe,(List.dropLast_concat_getLast hwe).symm⟩;have hE0D2:E0≠D2:=fun e=>by rw [e,hf2] at hE0;cases hE0
    have hE0W:E0≠Wt:=fun e=>by rw [e,hw2] at hE0;cases hE0
    have hzf:z∈fs:=hwf z (by simp);have hwfl2:wl'.length+1<=fs.length:=by rw [List.length_append] at hwfl;exact hwfl
    refine ⟨_,rfl,.inl ⟨rfl,_,SqL.of (tE Wt _ hw2)⟩,Wt,(wl'++[z]).map T,T z,rfl,rfl,tE Wt _ hw2,?_,?_⟩
    ·rw [List.length_map,List.length_append]
     show ((wl'++[z]).map T)[wl'.length+1-1]?=_;rw [List.map_append,List.getElem?_append_right (by rw [List.length_map];omega),List.length_map,show wl'.length+1-1-wl'.length=0 by omega];rfl
    have hdl:((wl'++[z]).map T).dropLast=wl'.map T:=by rw [List.map_append];exact List.dropLast_concat
    rw [hdl];have kp2:∀ b o,b≠D2->b≠Wt->G3 b=some o->upd (upd G2 E0 (.lst [])) Wt (.lst (wl'.map T)) b=some o:=fun b o h1 h2 e=>by rw [aH h2];exact tE b o (kp b o h1 h2 e)
    have sG4:aM H (upd (upd G2 E0 (.lst [])) Wt (.lst (wl'.map T))):=fun b o e=>by rw [aH (aK e hWH)];exact tE b o (sG2 b o e)
    have hf4:upd (upd G2 E0 (.lst [])) Wt (.lst (wl'.map T)) D2=some (.dK (tKs fs (.bl true))):=by rw [aH hWD.symm];exact tE D2 _ hf2
    have hw4:upd (upd G2 E0 (.lst [])) Wt (.lst (wl'.map T)) Wt=some (.lst (wl'.map T)):=aC;generalize upd (upd G2 E0 (.lst [])) Wt (.lst (wl'.map T))=G4 at kp2 sG4 hf4 hw4;have hDW:D≠Wt:=fun e=>by rw [e,hwG] at hdG;cases hdG
    have hd4:=kp2 D _ hDD2 hDW hdG;refine ⟨_,rfl,D,rfl,.inl ⟨kvs,.inl hd4⟩,_,rfl,(by show 0<=sizeLine;omega),fun e5 he5=>?_⟩;have t5:=aI (o:=.lst []) he5;refine ⟨_,jT.k (k:=Sum.inr (tx z)) (t5 D _ hd4),?_⟩;have hlist:∃ b,(fF kvs (Sum.inr (tx z))).getD (.ref e5) = .ref b∧upd G4 e5 (.lst []) b=some (.lst ((cg ms z).map T))∧b≠D2∧b≠Wt:=by
     by_cases hz:z∈ts
     ·obtain ⟨b,hb1,hb2⟩:=hwaG.get hz
      have n1:b≠D2:=fun e=>by rw [e,hd2G] at hb2;cases hb2
      have n2:b≠Wt:=fun e=>by rw [e] at hb1;obtain ⟨b',g1,g2⟩:=hwa.get hz;rw [g1] at hb1;cases hb1;rw [s2 _ _ g2] at hWt;cases hWt
      exact ⟨b,by rw [hb1];rfl,t5 b _ (kp2 b _ n1 n2 hb2),n1,n2⟩
     ·refine ⟨e5,by rw [mG hwaG hz];rfl,?_,(fun e=>by rw [e,hf4] at he5;cases he5),(fun e=>by rw [e,hw4] at he5;cases he5)⟩
      have:cg ms z=[]:=List.eq_nil_iff_forall_not_mem.mpr fun y hy=>by
       obtain ⟨w,h1,h2,_⟩:=yR.mp hy;exact hz ((hm z).mpr ⟨w,h1,h2⟩)
      rw [this];exact aC
    obtain ⟨b,hb1,hb2,hbD,hbW'⟩:=hlist;rw [hb1];refine ⟨b,rfl,⟨_,SqL.of hb2⟩,?_⟩;have hcl0:(cg ms z).length<=ms.length:=by unfold cg;rw [List.length_map];exact List.length_filter_le ..
    refine cT (K:=K) (a:=b) (xs:=(cg ms z).map T) (fun j σ G5=>∃ (fs' wl2:List (List Nat)) (v7:Option V),fs'.length=fs.length+(wl2.length-wl'.length)∧wl'.length<=wl2.length∧aM H G5∧(∀ c o,c≠D2->c≠Wt->G3 c=some o->G5 c=some o)∧G5 b=some (.lst ((cg ms z).map T))∧G5 D2=some (.dK (tKs fs' (.bl true)))∧G5 Wt=some (.lst (wl2.map T))∧fs'.Nodup∧(∀ y∈fs,y∈fs')∧(∀ y∈wl',y∈wl2)∧(∀ y∈fs',y∈fs∨y∈wl2)∧(∀ y∈wl2,y∈fs')∧Bj ms p fs'∧(∀ y∈(cg ms z).take j,y∈fs')∧σ=[some (.ref a),some (T p),some (.ref D),v2,some (.ref D2),some (.ref Wt),some (T z),v7])
     ⟨fs,wl',v7,by omega,Nat.le_refl _,sG4.trans t5,fun c o h1 h2 e=>t5 c o (kp2 c o h1 h2 e),hb2,t5 D2 _ hf4,t5 Wt _ hw4,hfn,fun y hy=>hy,fun y hy=>hy,fun y hy=>.inl hy,fun y hy=>hwf y (List.mem_append_left _ hy),hle,(fun y hy=>by rw [List.take_zero] at hy;cases hy),rfl⟩ (fun j σ G5 _ h=>by obtain ⟨_,_,_,_,_,_,_,h,_⟩:=h;exact SqL.of h) ?_ ?_
    ·rintro j y σ G5 hj ⟨fs',wl2,v7,hln,hlw,sG5,kp5,hb5,hf5,hw5,hfn5,hsub,hwsub,hnew,hwin,hle5,hdone,rfl⟩
     obtain ⟨y,hyj,rfl⟩:∃ y',(cg ms z)[j]?=some y'∧T y'=y:=by rw [List.getElem?_map] at hj;exact Option.map_eq_some_iff.mp hj
     have htk:(cg ms z).take (j+1)=(cg ms z).take j++[y]:=by rw [List.take_add_one,hyj];rfl
     obtain ⟨w0,hw01,hw02,hw03⟩:=yR.mp (List.mem_of_getElem? hyj);have hb5l:=hbnd fs' hfn5 hle5;refine ⟨_,rfl,_,rfl,D2,_,rfl,jT.k (k:=Sum.inr (tx y)) hf5,_,rfl,?_⟩;rw [Bc];by_cases hy:y∈fs'
     ·rw [if_pos hy]
      refine vG ?_;refine ⟨fs',wl2,some (T y),hln,hlw,sG5,kp5,hb5,hf5,hw5,hfn5,hsub,hwsub,hnew,hwin,hle5,fun x hx=>?_,rfl⟩;rw [htk] at hx;rcases List.mem_append.mp hx with h | h
      ·exact hdone x h
      ·rw [List.mem_singleton.mp h];exact hy
     ·rw [if_neg hy]
      refine wF ?_;refine ⟨_,rfl,_,rfl,D2,_,rfl,pW.k (k:=Sum.inr (tx y)) hf5 (by rw [Ah];omega),?_⟩;rw [Jl,show Hg.Me fs' y=fs'++[y] from if_neg hy];have hw6:upd G5 D2 (.dK (tKs (fs'++[y]) (.bl true))) Wt=some (.lst (wl2.map T)):=by rw [aH hWD];exact hw5
      refine ⟨_,rfl,.inl ⟨rfl,_,SqL.of hw6⟩,_,rfl,Wt,_,_,rfl,rfl,hw6,(by rw [List.length_map];omega),?_⟩;refine ⟨fs'++[y],wl2++[y],some (T y),by rw [List.length_append,List.length_append];show fs'.length+1=fs.length+(wl2.length+1-wl'.length);omega,by rw [List.length_append];omega,fun c o e=>by rw [aH (aK e hWH),aH (aK e hDH2)];exact sG5 c o e,fun c o h1 h2 e=>by rw [aH h2,aH h1];exact kp5 c o h1 h2 e,by rw [aH hbW',aH hbD];exact hb5,by rw [aH hWD.symm];exact aC,by rw [aC,List.map_append];rfl,?_,fun x hx=>List.mem_append_left _ (hsub x hx),fun x hx=>List.mem_append_left _ (hwsub x hx),fun x hx=>?_,fun x hx=>?_,fun χ h1 h2 k hk=>?_,fun x hx=>?_,rfl⟩
      ·exact List.nodup_append.mpr ⟨hfn5,by simp,fun a' ha c hc e=>hy (by rw [<- List.mem_singleton.mp hc,<- e];exact ha)⟩
      ·rcases List.mem_append.mp hx with h | h
       ·exact (hnew x h).elim .inl fun h=>.inr (List.mem_append_left _ h)
       ·exact .inr (List.mem_append_right _ h)
      ·rcases List.mem_append.mp hx with h | h
       ·exact List.mem_append_left _ (hwin x h)
       ·exact List.mem_append_right _ h
      ·rcases List.mem_append.mp hk with h | h
       ·exact hle5 χ h1 h2 k h
       ·rw [List.mem_singleton.mp h,<- hw03]
        exact h2 w0 hw01 (by rw [hw02];exact hle χ h1 h2 z hzf)
      ·rw [htk] at hx
       rcases List.mem_append.mp hx with h | h
       ·exact List.mem_append_left _ (hdone x h)
       ·exact List.mem_append_right _ h
    ·rintro σ G5 ⟨fs',wl2,v7,hln,hlw,sG5,kp5,hb5,hf5,hw5,hfn5,hsub,hwsub,hnew,hwin,hle5,hdone,rfl⟩
     rw [List.length_map,List.take_length] at hdone;have hb5l:=hbnd fs' hfn5 hle5;rw [List.length_append] at hmm hwfl;have hmm:m+2*fs.length=2*(ms.length+1)+(wl'.length+1):=hmm;have hwfl:wl'.length+1<=fs.length:=hwfl;refine ⟨2*(ms.length+1)+wl2.length-2*fs'.length,by omega,fs',wl2,_,v7,by omega,sG5,kp5,hf5,hw5,hfn5,hsub p hpf,hwin,hle5,fun w hw h=>?_,by omega,rfl⟩;by_cases hwz:w.drop 1=z
     ·exact .inr (hdone _ (yR.mpr ⟨w,hw,hwz,rfl⟩))
     ·rcases hnew _ h with h1 | h1
      ·rcases hcl w hw h1 with h2 | h2
       ·rcases List.mem_append.mp h2 with h3 | h3
        ·exact .inl (hwsub _ h3)
        ·exact absurd (List.mem_singleton.mp h3) hwz
       ·exact .inr (hsub _ h2)
      ·exact .inl h1
def qS (K:PySem.W.Frag):Sp:=fun vs H Q _=>∃ (a:Addr) (ns:List Int) (k:Nat),vs=[.ref a,.int (k:Nat)]∧SqL K H a (ns.map V.int)∧Q (.int (ns.getD k 0)) H
theorem oF {f:Addr}{fd:FuncData}(F:Fun K "_law_cell_at" "_law_cell_at" dO f fd)(tt:Txt K mg ad):cO P w K mg base (CX1 P w) 1 f fd ["script", "k"] (qS K):=by
 refine F.okN oA (fun vs H Q E h=>?_) (fun cdv A outer s H vs Q E hr h=>?_)
 ·obtain ⟨a,ns,k,rfl,_⟩:=h
  rfl
 ·obtain ⟨a,ns,k,rfl,hS,q⟩:=h
  refine ⟨_,(aB (bX (aO qW (pv 1) (aN aY (by rfl) tt.b_len PySem.boot_len (aA (pv 0) aD)) (aZ _)) (aF (bD (fV dQ (pv 0) (pv 1) (fun _ _=>rfl)))) aW)
   (aF (bD aG))),?_⟩
  (try rw [eF]);(try rw [cxK1])
  refine ⟨_,rfl,_,rfl,a,_,rfl,.inl hS,_,_,rfl,rfl,_,rfl,?_⟩;rw [List.length_map];refine gF (fun h0=>?_) (fun h0=>?_)
  ·have h1:k<ns.length:=by have:=of_decide_eq_true h0;omega
   rw [List.getD_eq_getElem?_getD,List.getElem?_eq_getElem h1] at q;exact ⟨_,rfl,_,rfl,a,_,_,_,rfl,rfl,hS,dS (by rw [List.getElem?_map,List.getElem?_eq_getElem h1];rfl),q⟩
  ·have h1:¬ k<ns.length:=fun z=>h0 (decide_eq_true (by omega))
   rw [List.getD_eq_getElem?_getD,List.getElem?_eq_none (by omega)] at q;exact q
theorem Gb {s:Int}(h0:0<=s)(h1:s<6):∃ c,atI [97,98,99,100,101,102] s=some c∧97<=c∧c<103:=by
 obtain ⟨m,hm⟩:=Int.eq_ofNat_of_zero_le h0;have hm':s=(m:Int):=hm;subst hm';exact ⟨97+m,dS (Qf (by omega)),by omega,by omega⟩
def WL (ls:List (List Nat))(n:Nat):Prop:=(∀ x∈ls,x.length=n∧Abc x)∧ls.Nodup
theorem WL.sub {ls ls':List (List Nat)}{n:Nat}(h:WL ls n)(s:ls'.Sublist ls):WL ls' n:=⟨fun x hx=>h.1 x (s.subset hx),h.2.sublist s⟩
theorem WL.snoc {ls:List (List Nat)}{n:Nat}{t:List Nat}(h:WL ls n)(ht:t.length=n∧Abc t)(hn:¬ t∈ls):WL (ls++[t]) n:=by
 refine ⟨fun x hx=>?_,List.nodup_append.mpr ⟨h.2,by simp,fun a ha b hb ee=>hn ?_⟩⟩
 ·rcases List.mem_append.mp hx with z | z
  ·exact h.1 x z
  ·have e:x=t:=by simpa using z
   subst e;exact ht
 ·have hb':b=t:=by simpa using hb
  rw [<- hb',<- ee];exact ha
theorem xC {k c:Nat}(h:c∈([97,98,99,100,101,102]:List Nat).take k):97<=c∧c<103:=by
 have:=List.mem_of_mem_take h
 simp at this;omega
def yK (K:PySem.W.Frag):Sp:=fun vs H Q _=>∃ (c:Addr) (ns:List Int) (k:Nat) (f0:List Nat),vs=[.ref c,.int (k:Nat),T f0]∧SqL K H c (ns.map V.int)∧(ns.length<=63∧k<=6∧f0.length<=10)∧Abc f0 ∧
 ∀ (D:Addr) (ls:List (List Nat)) (H':Hp),aM H H'->H' D=some (.lst (ls.map T))->WL ls (f0.length+1)->ls.length<=ns.length->Q (.ref D) H'
theorem vU {f:Addr}{fd:FuncData}(F:Fun K "_law_walk" "_law_walk" eP f fd)(tt:Txt K mg ad):cO P w K mg base (CX1 P w) 1 f fd ["cells", "kinds", "first"] (yK K):=by
 refine F.okN dX (fun vs H Q E h=>?_) (fun cdv A outer s H vs Q E hr h=>?_)
 ·obtain ⟨c,ns,k,f0,rfl,_⟩:=h
  rfl
 ·obtain ⟨c,ns,k,f0,rfl,hS,hb,hf0,q⟩:=h
  have hs:sizeLine=16777216:=sizeLine_eq;have hnl:(ns.map V.int).length=ns.length:=List.length_map ..;refine ⟨_,(aB (aJ (i:=3) dX.nd rfl (Or.inr rfl) (cU aD))
   (aB (aJ (i:=4) dX.nd rfl (Or.inr rfl) (pv 2))
   (aB (cM PassesOwn.never rfl (bW (pv 0)) (bO (i:=5) dX.nd rfl (Or.inl rfl)) (aB (xT (i:=6) qV rfl (yW (bC jS (cH [97,98,99,100,101,102] (by decide +kernel)) bR (bJ (pv 1)))) (fun cl C s' H' fp=>(aO (rY K rfl) (aL jR (pv 5) (pv 0)) (pv 4) (by with_unfolding_all rfl))) (fun cl C s' H' fp=>(aL jR (pv 5) (pv 0))) dX.nd rfl rfl)
   (aB (bX (aO eK (aN aY (by rfl) tt.b_len PySem.boot_len (aA (pv 6) aD)) aG (aZ _)) (aF wO) aW)
   (aB (aJ (i:=7) dX.nd rfl (Or.inl rfl) (fV dQ (pv 6) (aL cQ (pv 5) (aN aY (by rfl) tt.b_len PySem.boot_len (aA (pv 6) aD))) (fun _ _=>rfl)))
   (aB (eJ (lR PySem.F.plainAttrs_list PySem.F.slot_list_append PySem.F.type_list_append eU (pv 3) (aA (pv 7) aD)))
   (aF (aJ (i:=4) dX.nd rfl (Or.inr rfl) (bC jS (pv 7) (bJ aG) bR))))))))
   (aF (bD (pv 3)))))),?_⟩
  (try rw [eF]);(try rw [cxK1])
  refine ⟨(by show 0<=sizeLine;omega),fun D hD=>?_⟩;have s0:=aI (o:=.lst []) hD;refine ⟨_,rfl,?_⟩;refine ⟨_,rfl,c,rfl,⟨_,s0.seq hS⟩,?_⟩;refine cT (K:=K) (a:=c) (xs:=ns.map V.int) (fun i σ H2=>aM H H2∧∃ (ls:List (List Nat)) (hh:List Nat) (v5 v6 v7:Option V),H2 D=some (.lst (ls.map T))∧WL ls (f0.length+1)∧ls.length<=i∧hh.length=f0.length∧Abc hh∧σ=[some (.ref c),some (.int (k:Nat)),some (T f0),some (.ref D),some (T hh),v5,v6,v7])
   ⟨s0,[],f0,none,none,none,aC,⟨fun x hx=>(by simp at hx),List.nodup_nil⟩,Nat.le_refl _,rfl,hf0,rfl⟩ (fun i σ H2 _ h=>h.1.seq hS) ?_ ?_
  ·rintro i y σ H2 hi ⟨s2,ls,hh,v5,v6,v7,hd,hwl,hl,hhl,hab,rfl⟩
   have hi63:i<ns.length:=by have:=(List.getElem?_eq_some_iff.mp hi).1;omega
   obtain ⟨z,rfl⟩:∃ z,y=V.int z:=by
    obtain ⟨z,_,e⟩:=List.mem_map.mp (List.mem_of_getElem? hi);exact ⟨z,e.symm⟩
   refine ⟨_,rfl,_,rfl,_,rfl,(by show 6<=sizeLine;omega),?_⟩;have ec:gB [97,98,99,100,101,102] none (some ((k:Nat):Int))=([97,98,99,100,101,102]:List Nat).take k:=sE _ _;rw [ec];refine ⟨_,rfl,?_⟩;generalize hsg:([97,98,99,100,101,102]:List Nat).take k=sg;have hsgl:sg.length<=6:=by rw [<- hsg,List.length_take];exact Nat.min_le_right _ _
   have hsga:∀ c∈sg,97<=c∧c<103:=fun c hc=>xC (by rw [hsg];exact hc)
   refine Ge (vs:=(sg.map fun c=>[c]).map T) (fun v=>!decide (hh++unT v∈ls)) (fun v=>T (hh++unT v)) pX (by rw [List.length_map,List.length_map];omega) (fun v H3 hv s3 N hN=>?_) (fun v H3 hv hp s3 N hN=>?_) fun D1 H3 hD1 s3 hd3=>?_
   ·obtain ⟨l,hl',rfl⟩:=List.mem_map.mp hv
    obtain ⟨ch,hch,rfl⟩:=List.mem_map.mp hl';have g:=hN H3 (aM.refl _);rw [fJ] at g;refine ⟨_,rfl,_,rfl,_,rfl,_,rfl,(by show hh.length+1<=sizeLine;omega),_,rfl,D,_,rfl,.inl (SqL.of (s3 D _ hd)),rfl,gM ls,_,rfl,?_⟩;show N (!inV (T (hh++[ch])) (ls.map T)) H3;rw [qI];exact g
   ·obtain ⟨l,hl',rfl⟩:=List.mem_map.mp hv
    obtain ⟨ch,hch,rfl⟩:=List.mem_map.mp hl';have g:=hN H3 (aM.refl _);rw [fJ] at g;exact ⟨_,rfl,_,rfl,_,rfl,_,rfl,(by show hh.length+1<=sizeLine;omega),g⟩
   obtain ⟨fr,hfr,hfm⟩:∃ fr:List (List Nat),(((sg.map fun c=>[c]).map T).filter (fun v=>!decide (hh++unT v∈ls))).map (fun v=>T (hh++unT v))=fr.map T∧∀ t∈fr,(t.length=f0.length+1∧Abc t)∧¬ t∈ls:=by
    refine ⟨((sg.map fun c=>[c]).filter fun l=>!decide (hh++l∈ls)).map fun l=>hh++l,?_,fun t ht=>?_⟩
    ·rw [show ((sg.map fun c=>[c]).map T).filter (fun v=>!decide (hh++unT v∈ls))=((sg.map fun c=>[c]).filter fun l=>!decide (hh++l∈ls)).map T from lF (p:=fun l=>!decide (hh++l∈ls)) _,gW (f:=fun l=>T (hh++l)),List.map_map]
     rfl
    ·obtain ⟨l,hl',rfl⟩:=List.mem_map.mp ht
     obtain ⟨h1,h2⟩:=List.mem_filter.mp hl';obtain ⟨ch,hch,rfl⟩:=List.mem_map.mp h1;refine ⟨⟨by rw [List.length_append,hhl];rfl,fun d hd'=>?_⟩,fun z=>by rw [decide_eq_true z] at h2;cases h2⟩;rcases List.mem_append.mp hd' with g | g
     ·exact hab d g
     ·have e:d=ch:=by simpa using g
      subst e;exact hsga d hch
   rw [hfr] at hd3;have hfl:(fr.map T).length=fr.length:=List.length_map ..;refine ⟨_,rfl,D1,_,rfl,.inl (SqL.of hd3),_,rfl,_,rfl,_,rfl,?_⟩;rw [hfl];refine gF (fun h0=>?_) (fun h0=>?_)
   ·exact ⟨_,rfl,q D ls H3 (s2.trans s3) (s3 D _ hd) hwl (by omega)⟩
   have hf0:0<fr.length:=by
    rcases Nat.eq_zero_or_pos fr.length with g | g
    ·exact absurd (decide_eq_true (by rw [g];rfl)) h0
    ·exact g
   have z0:=Int.emod_nonneg z (show ((fr.length:Nat):Int)≠0 by omega);have z1:=Int.emod_lt_of_pos z (show (0:Int)<((fr.length:Nat):Int) by omega);obtain ⟨m,hm,hml⟩:∃ m:Nat,z % ((fr.length:Nat):Int)=(m:Int)∧m<fr.length:=⟨(z % ((fr.length:Nat):Int)).toNat,by omega,by omega⟩;obtain ⟨t,ht⟩:∃ t,fr[m]?=some t:=⟨_,List.getElem?_eq_getElem hml⟩;obtain ⟨htn,htl⟩:=hfm t (List.mem_of_getElem? ht);refine ⟨_,rfl,_,rfl,_,rfl,D1,_,rfl,.inl (SqL.of hd3),_,_,rfl,rfl,(by show (0:Int)<(((fr.map T).length:Nat):Int);omega),D1,_,_,_,rfl,rfl,SqL.of hd3,(by rw [hfl,hm];exact dS (by rw [List.getElem?_map,ht];rfl)),?_⟩;refine ⟨_,rfl,.inl ⟨rfl,_,SqL.of (s3 D _ hd)⟩,_,rfl,D,_,_,rfl,rfl,s3 D _ hd,(by rw [List.length_map];omega),?_⟩;have ed:gB t (some 1) none=t.drop 1:=iE (k:=1) (by omega);refine ⟨_,rfl,_,rfl,_,rfl,(by omega),?_⟩;refine ⟨(fun b o e=>by rw [aH (aK e hD)];exact (s2.trans s3) b o e),ls++[t],t.drop 1,some (.int z),some (.ref D1),some (T t),by rw [List.map_append];exact aC,hwl.snoc htn htl,by rw [List.length_append,List.length_singleton];omega,by rw [List.length_drop];omega,fun d hd'=>htn.2 d (List.mem_of_mem_drop hd'),?_⟩;rw [<- ed];rfl
  ·rintro σ H2 ⟨s2,ls,hh,v5,v6,v7,hd,hwl,hl,hhl,hab,rfl⟩
   exact ⟨_,rfl,q D ls H2 s2 hd hwl (by omega)⟩
theorem Dz {ns:List Int}{lo hi:Option Int}:∃ ms:List Int,eE (ns.map V.int) lo hi=ms.map V.int:=by
 refine ⟨(ns.drop (HT.sIx ns.length 0 lo)).take (HT.sIx ns.length ns.length hi-HT.sIx ns.length 0 lo),?_⟩;rw [eE,List.length_map,List.map_take,List.map_drop]
theorem uP {xs:List V}{a b:Nat}:(eE xs (some (a:Int)) (some (b:Int))).length<=b-a:=by
 unfold eE;rw [HT.fD,HT.fD,List.length_take,List.length_drop];omega
theorem Ko {l:List Int}{lo hi:Int}(h:∀ x∈l,lo<=x∧x<=hi){z:Int}(h0:0<=z)(h1:z<l.length):∃ v:Int,atI (l.map V.int) z=some (.int v)∧lo<=v∧v<=hi:=by
 obtain ⟨m,rfl⟩:∃ m:Nat,z=(m:Int):=⟨z.toNat,by omega⟩;have hm:m<l.length:=by omega
 obtain ⟨a,b⟩:=h _ (List.getElem_mem hm);exact ⟨l[m],dS (by rw [List.getElem?_map,List.getElem?_eq_getElem hm];rfl),a,b⟩
theorem Cw {ls:List (List Nat)}:eE (ls.map T) none (some (-1))=(ls.take (ls.length-1)).map T:=by
 unfold eE;rw [HT.fB,List.drop_zero,Nat.sub_zero,List.length_map,List.map_take];show (ls.map T).take (if (-1:Int)<0 then ((-1:Int)+(ls.length:Int)).toNat else min (-1:Int).toNat ls.length)=_;rw [if_pos (by decide),show ((-1:Int)+(ls.length:Int)).toNat=ls.length-1 by omega]
theorem Ke (n:Nat):(Wd.rep n [97]).length=n∧Abc (Wd.rep n [97]):=by
 refine ⟨by rw [Wd.Ax];show n*1=n;omega,fun c hc=>?_⟩;unfold Wd.rep at hc;obtain ⟨l,h1,h2⟩:=List.mem_flatten.mp hc;rw [List.eq_of_mem_replicate h1] at h2;have e:c=97:=by simpa using h2
 omega
theorem WL.one {n:Nat}{t:List Nat}(h:t.length=n∧Abc t):WL [t] n:=⟨fun x hx=>by rw [List.mem_singleton.mp hx];exact h,by simp⟩
def pE (K:PySem.W.Frag):Sp:=fun vs H Q _=>∃ (a:Addr) (ns:List Int),vs=[.ref a,.int 0,.int 20]∧SqL K H a (ns.map V.int)∧∀ (D:Addr) (ls:List (List Nat)) (n:Nat) (H':Hp),aM H H'->H' D=some (.lst (ls.map T))->WL ls n->(1<=n∧n<=5)->ls≠[]->ls.length<=20->Q (.ref D) H'
theorem kX {f:Addr}{fd:FuncData}(F:Fun K "_law_ring_words" "_law_ring_words" cL f fd)(tt:Txt K mg ad)(C__law_cell_at:Cal P w K mg base (CX1 P w) "_law_cell_at" 1 ["script", "k"] (qS K))(C__law_walk:Cal P w K mg base (CX1 P w) "_law_walk" 1 ["cells", "kinds", "first"] (yK K)) :
  cO P w K mg base (CX1 P w) 2 f fd ["script", "at", "most"] (pE K):=by
 refine F.okN bA (fun vs H Q E h=>?_) (fun cdv A outer s H vs Q E hr h=>?_)
 ·obtain ⟨a,ns,rfl,_⟩:=h
  rfl
 ·obtain ⟨a,ns,rfl,hS,q⟩:=h
  have hs:sizeLine=16777216:=sizeLine_eq;obtain ⟨nz,hnz,n1,n5⟩:=Ko (l:=[2,3,1,4,2,3,5]) (lo:=1) (hi:=5) (by decide) (Int.emod_nonneg (ns.getD 0 0) (show (7:Int)≠0 by decide)) (Int.emod_lt_of_pos _ (show (0:Int)<7 by decide));obtain ⟨kz,hkz,k1,k6⟩:=Ko (l:=[2,3,2,2,4,6,2,1]) (lo:=1) (hi:=6) (by decide) (Int.emod_nonneg (ns.getD 1 0) (show (8:Int)≠0 by decide)) (Int.emod_lt_of_pos _ (show (0:Int)<8 by decide));obtain ⟨n,rfl⟩:∃ n:Nat,nz=(n:Int):=⟨nz.toNat,by omega⟩;obtain ⟨k,rfl⟩:∃ k:Nat,kz=(k:Int):=⟨kz.toNat,by omega⟩;refine ⟨_,(aB (aJ (i:=3) bA.nd rfl (Or.inl rfl) (fV dQ (cU (aA aG (aA aG (aA aG (aA aG (aA aG (aA aG (aA aG aD)))))))) (aL cQ (aP C__law_cell_at hr bL (aA (pv 0) (aA (pv 1) aD))) aG) (fun _ _=>rfl)))
   (aB (aJ (i:=4) bA.nd rfl (Or.inl rfl) (fV dQ (cU (aA aG (aA aG (aA aG (aA aG (aA aG (aA aG (aA aG (aA aG aD))))))))) (aL cQ (aP C__law_cell_at hr bL (aA (pv 0) (aA (aL dE (pv 1) aG) aD))) aG) (fun _ _=>rfl)))
   (aB (aJ (i:=5) bA.nd rfl (Or.inl rfl) (aP C__law_cell_at hr bL (aA (pv 0) (aA (aL dE (pv 1) aG) aD))))
   (aB (aJ (i:=6) bA.nd rfl (Or.inl rfl) (cH [] (by decide +kernel)))
   (aB (cM PassesOwn.never rfl (hV (by rfl) tt.b_range (aA (aL gO (pv 3) aG) aD)) (bO (i:=7) bA.nd rfl (Or.inl rfl)) (aB (aJ (i:=6) bA.nd rfl (Or.inl rfl) (aL jR (pv 6) (fV Pe (cH [97,98,99,100,101,102] (by decide +kernel)) (aL cQ (pv 5) (pv 4)) (fun _ _=>rfl))))
   (aF (aJ (i:=5) bA.nd rfl (Or.inl rfl) (aL hJ (pv 5) (pv 4))))))
   (aB (aJ (i:=8) bA.nd rfl (Or.inl rfl) (aP C__law_walk hr bL (aA (bC eX (pv 0) (bJ (aL dE (pv 1) aG)) (bJ (aL dE (aL dE (pv 1) aG) (pv 2)))) (aA (pv 4) (aA (pv 6) aD)))))
   (aB (jH PassesOwn.never (PW.pt (qE (aO nJ (aN aY (by rfl) tt.b_len PySem.boot_len (aA (pv 8) aD)) aG (aZ _)) (lL (aO oM (bC jS (fV dQ (pv 8) (jF gQ aG) (fun _ _=>rfl)) (bJ aG) bR) (pv 6) (aZ _))))) (aF (aJ (i:=8) bA.nd rfl (Or.inl rfl) (bC eX (pv 8) bR (bJ (jF gQ aG))))))
   (aB (bX (aO eK (aN aY (by rfl) tt.b_len PySem.boot_len (aA (pv 8) aD)) aG (aZ _)) (aF (aJ (i:=8) bA.nd rfl (Or.inl rfl) (cU (aA (aL vZ (cH [97] (by decide +kernel)) (pv 3)) aD)))) aW)
   (aF (bD (pv 8))))))))))),?_⟩
  (try rw [eF]);(try rw [cxK1])
  refine ⟨(by show 7<=sizeLine;omega),fun p1 hp1=>?_⟩;have s1:=aI (o:=.lst [.int 2,.int 3,.int 1,.int 4,.int 2,.int 3,.int 5]) hp1;refine ⟨_,rfl,_,rfl,a,ns,0,rfl,s1.seq hS,_,_,rfl,rfl,(by show (0:Int)<7;decide),p1,_,_,_,rfl,rfl,SqL.of aC,hnz,?_⟩;refine ⟨(by show 8<=sizeLine;omega),fun p2 hp2=>?_⟩;have s2:=s1.trans (aI (o:=.lst [.int 2,.int 3,.int 2,.int 2,.int 4,.int 6,.int 2,.int 1]) hp2);refine ⟨_,rfl,_,rfl,_,_,rfl,rfl,a,ns,1,rfl,s2.seq hS,_,_,rfl,rfl,(by show (0:Int)<8;decide),p2,_,_,_,rfl,rfl,SqL.of aC,hkz,?_⟩;obtain ⟨H2,hH2,s2⟩:=Ex s2;rw [<- hH2];refine ⟨_,rfl,_,rfl,_,_,rfl,rfl,a,ns,2,rfl,s2.seq hS,?_⟩;refine ⟨_,rfl,_,_,rfl,rfl,_,rfl,by omega,by omega,?_⟩;rw [show (((n:Nat):Int)-1).toNat=n-1 by omega];refine hZ (fun i σ H3=>H2=H3∧∃ (d:Int) (t:List Nat) (v7:Option V),t.length=i∧Abc t∧σ=[some (.ref a),some (.int 0),some (.int 20),some (.int (n:Nat)),some (.int (k:Nat)),some (.int d),some (T t),v7,none])
   ⟨rfl,ns.getD 2 0,[],none,rfl,(fun c hc=>by simp at hc),rfl⟩ ?_ ?_
  ·rintro i σ H3 hi ⟨rfl,d,t,v7,ht,hab,rfl⟩
   have z0:=Int.emod_nonneg d (show ((k:Nat):Int)≠0 by omega);have z1:=Int.emod_lt_of_pos d (show (0:Int)<((k:Nat):Int) by omega);obtain ⟨c,hc,c0,c1⟩:=Gb z0 (by omega);refine ⟨_,rfl,_,rfl,_,rfl,_,_,rfl,rfl,(by show (0:Int)<((k:Nat):Int);omega),_,rfl,_,rfl,(by show 6<=sizeLine;omega),c,hc,_,rfl,_,rfl,(by show t.length+1<=sizeLine;omega),?_⟩;refine ⟨_,rfl,_,rfl,_,_,rfl,rfl,⟨by omega,by omega⟩,?_⟩;refine ⟨rfl,d/((k:Nat):Int),t++[c],some (.int (0+(i:Int))),by rw [List.length_append,ht];rfl,fun e he=>?_,rfl⟩;rcases List.mem_append.mp he with g | g
   ·exact hab e g
   ·have e':e=c:=by simpa using g
    subst e';exact ⟨c0,c1⟩
  ·rintro σ H3 ⟨rfl,d,f0,v7,hf,hab,rfl⟩
   obtain ⟨ds,hds⟩:∃ ds:List Int,eE (ns.map V.int) (some ((3:Nat):Int)) (some ((23:Nat):Int))=ds.map V.int:=Dz;have hdl:ds.length<=20:=by
    have e:=congrArg List.length hds;have e2:=uP (xs:=ns.map V.int) (a:=3) (b:=23);rw [List.length_map] at e;omega
   refine ⟨_,rfl,_,rfl,_,_,rfl,rfl,_,rfl,_,rfl,_,_,rfl,rfl,_,rfl,_,_,rfl,rfl,_,rfl,a,_,rfl,s2.seq hS,fun p4 hp4=>?_⟩;rw [show eE (ns.map V.int) (some ((0:Int)+3)) (some ((0:Int)+3+20))=ds.map V.int from hds];have s4:=s2.trans (aI (o:=.lst (ds.map V.int)) hp4);refine ⟨_,rfl,_,rfl,p4,ds,k,f0,rfl,SqL.of aC,⟨by omega,by omega,by omega⟩,hab,fun D ls H5 s5 hd hwl hl=>?_⟩;have hn':f0.length+1=n:=by omega
   rw [hn'] at hwl;have s05:=s4.trans s5;refine ⟨fun m σ H6=>∃ (p:Addr) (ls':List (List Nat)),m=ls'.length∧aM H H6∧H6 p=some (.lst (ls'.map T))∧WL ls' n∧ls'.length<=20∧σ=[some (.ref a),some (.int 0),some (.int 20),some (.int (n:Nat)),some (.int (k:Nat)),some (.int d),some (T f0),v7,some (.ref p)],⟨ls.length,D,ls,rfl,s05,hd,hwl,by omega,rfl⟩,?_⟩;rintro m σ H6 ⟨p,ls',hm,s6,hd6,hw6,hl6,rfl⟩;have hml:(ls'.map T).length=ls'.length:=List.length_map ..;have fin:∀ (D:Addr) (ls2:List (List Nat)) (H':Hp),aM H H'->H' D=some (.lst (ls2.map T))->WL ls2 n->ls2≠[]->ls2.length<=20->Q (.ref D) H':=fun D ls2 H' h1 h2 h3 h4 h5=>q D ls2 n H' h1 h2 h3 ⟨by omega,by omega⟩ h4 h5
   refine ⟨_,rfl,p,_,rfl,.inl (SqL.of hd6),_,_,rfl,rfl,_,rfl,?_⟩;rw [hml];refine gF (fun h0=>?a) (fun h0=>?b)
   case' a =>
    have h0':0<ls'.length:=by have:=of_decide_eq_true h0;omega
    obtain ⟨t,ht⟩:∃ t,ls'[ls'.length-1]?=some t:=⟨_,List.getElem?_eq_getElem (by omega)⟩;have htl:=(hw6.1 t (List.mem_of_getElem? ht)).1;have hat:atI (ls'.map T) (-1)=some (T t):=by
     show (ixN (ls'.map T).length (-1)).bind _=_;rw [hml];unfold ixN;rw [if_neg (by decide),if_pos (by omega),show ((-1:Int)+ls'.length).toNat=ls'.length-1 by omega];show (ls'.map T)[ls'.length-1]?=_;rw [List.getElem?_map,ht];rfl
    refine ⟨_,rfl,_,rfl,p,_,_,_,rfl,rfl,SqL.of hd6,hat,_,rfl,_,rfl,(by omega),_,rfl,_,rfl,_,rfl,_,rfl,?_⟩;refine gF (fun h1=>?a1) (fun h1=>?a2)
   case a1 =>
    refine ⟨_,fun σ' H' z=>z,?_⟩;refine ⟨_,rfl,_,rfl,_,rfl,p,_,rfl,SqL.of hd6,fun p7 hp7=>?_⟩;rw [show eE (ls'.map T) none (some (-(1:Int)))=(ls'.take (ls'.length-1)).map T from Cw];have htk:(ls'.take (ls'.length-1)).length=ls'.length-1:=by rw [List.length_take];omega
    exact ⟨ls'.length-1,by omega,p7,ls'.take (ls'.length-1),htk.symm,s6.trans (aI hp7),aC,hw6.sub (List.take_sublist _ _),by omega,rfl⟩
   all_goals
    refine ⟨_,rfl,p,_,rfl,.inl (SqL.of hd6),_,rfl,_,rfl,_,rfl,?_⟩;rw [hml];refine gF (fun h2=>?_) (fun h2=>?_)
    ·refine ⟨_,rfl,_,rfl,n,rfl,⟨by omega,by show n*1<=sizeLine;omega⟩,(by show 1<=sizeLine;omega),fun p7 hp7=>?_⟩
     exact ⟨_,rfl,fin p7 [Wd.rep n [97]] _ (s6.trans (aI hp7)) aC (WL.one (Ke n)) (by simp) (by show 1<=20;decide)⟩
    ·exact ⟨_,rfl,fin p ls' H6 s6 hd6 hw6 (fun z=>h2 (decide_eq_true (by rw [z];rfl))) hl6⟩
def ext (ws:List (List Nat))(sg:List Nat):List (List Nat):=ws.flatMap fun w=>sg.map fun c=>w++[c]
theorem Fj (ws:List (List Nat))(w:List Nat)(sg:List Nat):ext (ws++[w]) sg=ext ws sg++sg.map fun c=>w++[c]:=by
 unfold ext;rw [List.flatMap_append];simp
theorem vB (sg:List Nat):∀ ws:List (List Nat),(ext ws sg).length=ws.length*sg.length
 | []=>by simp [ext]
 | w::ws=>by
  have ih:=vB sg ws;unfold ext at ih ⊢;rw [List.flatMap_cons,List.length_append,ih,List.length_map,List.length_cons,Nat.succ_mul,Nat.add_comm]
theorem Ao {ws:List (List Nat)}{sg:List Nat}{x:List Nat}(h:x∈ext ws sg):∃ w∈ws,∃ c∈sg,x=w++[c]:=by
 obtain ⟨w,hw,hx⟩:=List.mem_flatMap.mp h;obtain ⟨c,hc,e⟩:=List.mem_map.mp hx;exact ⟨w,hw,c,hc,e.symm⟩
theorem tK {sg:List Nat}(hs:sg.Nodup):∀ {ws:List (List Nat)},ws.Nodup->(ext ws sg).Nodup
 | [],_=>List.nodup_nil
 | w::ws,h=>by
  rw [List.nodup_cons] at h;have ih:=tK hs h.2;show (ext (w::ws) sg).Nodup;have e:ext (w::ws) sg=(sg.map fun c=>w++[c])++ext ws sg:=by unfold ext;rw [List.flatMap_cons]
  rw [e];refine List.nodup_append.mpr ⟨?_,ih,fun a ha b hb ee=>h.1 ?_⟩
  ·refine List.pairwise_map.mpr (hs.imp fun hne z=>hne ?_)
   have:=List.append_cancel_left z
   simpa using this
  ·obtain ⟨c,hc,e1⟩:=List.mem_map.mp ha
   obtain ⟨w',hw',c',hc',e2⟩:=Ao hb;have z:w++[c]=w'++[c']:=e1.trans (ee.trans e2);have z2:=(List.append_inj' z rfl).1;rw [z2];exact hw'
theorem WL.ext {ws:List (List Nat)}{sg:List Nat}{i:Nat}(h:WL ws i)(hs:sg.Nodup)(ha:∀ c∈sg,97<=c∧c<103):WL (ext ws sg) (i+1):=by
 refine ⟨fun x hx=>?_,tK hs h.2⟩;obtain ⟨w,hw,c,hc,rfl⟩:=Ao hx;obtain ⟨h1,h2⟩:=h.1 w hw;refine ⟨by rw [List.length_append,h1];rfl,fun d hd=>?_⟩;rcases List.mem_append.mp hd with g | g
 ·exact h2 d g
 ·have e:d=c:=by simpa using g
  subst e;exact ha d hc
def uO:Sp:=fun vs H Q _=>∃ (k n:Nat),vs=[.int (k:Nat),.int (n:Nat)]∧(k<=6∧n<=4)∧∀ (D:Addr) (ls:List (List Nat)) (H':Hp),H D=none->aM H H'->H' D=some (.lst (ls.map T))->WL ls n->ls.length<=2000->Q (.ref D) H'
theorem rH {f:Addr}{fd:FuncData}(F:Fun K "_law_every" "_law_every" dU f fd)(tt:Txt K mg ad):cO P w K mg base (CX1 P w) 1 f fd ["kinds", "length"] uO:=by
 refine F.okN eC (fun vs H Q E h=>?_) (fun cdv A outer s H vs Q E hr h=>?_)
 ·obtain ⟨k,n,rfl,_⟩:=h
  rfl
 ·obtain ⟨k,n,rfl,hb,q⟩:=h
  have hs:sizeLine=16777216:=sizeLine_eq;obtain ⟨sg,hsg,hsgl,hsga,hsgn⟩:∃ sg:List Nat,gB [97,98,99,100,101,102] none (some ((k:Nat):Int))=sg∧sg.length<=6∧(∀ c∈sg,97<=c∧c<103)∧sg.Nodup :=
   ⟨_,sE _ _,by rw [List.length_take];exact Nat.min_le_right _ _,fun c hc=>xC hc,(show ([97,98,99,100,101,102]:List Nat).Nodup by decide).sublist (List.take_sublist _ _)⟩
  refine ⟨_,(aB (aJ (i:=2) eC.nd rfl (Or.inl rfl) (cU (aA (cH [] (by decide +kernel)) aD)))
   (aB (cM PassesOwn.never rfl (hV (by rfl) tt.b_range (aA (pv 1) aD)) (bO (i:=3) eC.nd rfl (Or.inl rfl)) (aB (aJ (i:=4) eC.nd rfl (Or.inl rfl) (cU aD))
   (aB (cM PassesOwn.never rfl (bW (pv 2)) (bO (i:=5) eC.nd rfl (Or.inr rfl)) (aF (eJ (lR PySem.F.plainAttrs_list PySem.F.slot_list_extend PySem.F.type_list_extend Dk (pv 4) (aA (eL nY rfl (yW (bC jS (cH [97,98,99,100,101,102] (by decide +kernel)) bR (bJ (pv 0)))) (fun cl C s' H' fp=>(aL jR (pv 6) (pv 0)))) aD)))))
   (aF (aJ (i:=2) eC.nd rfl (Or.inl rfl) (pv 4))))))
   (aF (bD (pv 2))))),?_⟩
  (try rw [eF]);(try rw [cxK1])
  refine ⟨(by show 1<=sizeLine;omega),fun p0 hp0=>?_⟩;refine ⟨_,rfl,_,rfl,by omega,by omega,?_⟩;rw [Int.toNat_natCast];refine hZ (fun i σ H2=>aM H H2∧∃ (p:Addr) (ls:List (List Nat)) (v3 v4 v5:Option V),H p=none∧H2 p=some (.lst (ls.map T))∧WL ls i∧ls.length<=6 ^ i∧σ=[some (.int (k:Nat)),some (.int (n:Nat)),some (.ref p),v3,v4,v5])
   ⟨aI hp0,p0,[[]],none,none,none,hp0,aC,⟨fun x hx=>by rw [List.mem_singleton.mp hx];exact ⟨rfl,fun c hc=>by simp at hc⟩,by simp⟩,(by decide),rfl⟩ ?_ ?_
  ·rintro i σ H2 hi ⟨s2,p,ls,v3,v4,v5,hpn,hd,hwl,hl,rfl⟩
   have hl3:ls.length<=216:=Nat.le_trans hl (Nat.pow_le_pow_right (by decide) (show i<=3 by omega));refine ⟨(by show 0<=sizeLine;omega),fun D hD=>?_⟩;have s3:=aI (o:=.lst []) hD;refine ⟨_,rfl,p,rfl,⟨_,SqL.of (s3 p _ hd)⟩,?_⟩;refine cT (K:=K) (a:=p) (xs:=ls.map T) (fun j σ H3=>aM H2 H3∧∃ (v5:Option V),H3 D=some (.lst ((ext (ls.take j) sg).map T))∧σ=[some (.int (k:Nat)),some (.int (n:Nat)),some (.ref p),some (.int (0+(i:Int))),some (.ref D),v5])
    ⟨s3,v5,aC,rfl⟩ (fun j σ H3 _ h=>SqL.of (h.1 p _ hd)) ?_ ?_
   ·rintro j y σ H3 hj ⟨s4,v5,hd4,rfl⟩
    obtain ⟨wd,hwd,rfl⟩:∃ wd,ls[j]?=some wd∧y=T wd:=by
     rw [List.getElem?_map] at hj;obtain ⟨x,h1,h2⟩:=Option.map_eq_some_iff.mp hj;exact ⟨x,h1,h2.symm⟩
    have hwdl:=(hwl.1 wd (List.mem_of_getElem? hwd)).1;refine ⟨_,rfl,.inl ⟨rfl,_,SqL.of hd4⟩,_,rfl,_,rfl,_,rfl,(by show 6<=sizeLine;omega),?_⟩;rw [hsg];refine ⟨_,rfl,?_⟩;refine jA (vs:=(sg.map fun c=>[c]).map T) (fun v=>T (wd++unT v)) pX (by rw [List.length_map,List.length_map];omega) (fun v H5 hv s5 N hN=>?_) fun D1 H5 hD1 s5 hd5=>?_
    ·obtain ⟨l,hl',rfl⟩:=List.mem_map.mp hv
     obtain ⟨ch,hch,rfl⟩:=List.mem_map.mp hl';have g:=hN H5 (aM.refl _);rw [fJ] at g;exact ⟨_,rfl,_,rfl,_,rfl,_,rfl,(by show wd.length+1<=sizeLine;omega),g⟩
    rw [gW (f:=fun l=>T (wd++l)),List.map_map] at hd5;have e5:sg.map ((fun l=>T (wd++l))∘fun c=>[c])=(sg.map fun c=>wd++[c]).map T:=by rw [List.map_map];rfl
    rw [e5] at hd5;have hjl:j<ls.length:=(List.getElem?_eq_some_iff.mp hwd).1;have el:=vB sg (ls.take j);have htk:(ls.take j).length<=216:=by rw [List.length_take];omega
    have hm:(ls.take j).length*sg.length<=216*6:=Nat.mul_le_mul htk hsgl;refine ⟨D,D1,_,_,rfl,rfl,s5 D _ hd4,hd5,(by rw [List.length_map,List.length_map,List.length_map,el];omega),?_⟩;refine ⟨(fun b o e=>by rw [aH (aK e hD)];exact (s4.trans s5) b o e),some (T wd),?_,rfl⟩;rw [List.take_add_one,hwd,show (some wd).toList=[wd] from rfl,Fj,List.map_append];exact aC
   ·rintro σ H3 ⟨s4,v5',hd4,rfl⟩
    rw [List.length_map,List.take_length] at hd4;refine ⟨_,rfl,?_⟩;have hDn:H D=none:=by
     cases e:H D with
     | none=>rfl
     | some o=>exact absurd ((s2 D o e).symm.trans hD) (fun z=>nomatch z)
    refine ⟨s2.trans s4,D,ext ls sg,some (.int (0+(i:Int))),some (.ref D),v5',hDn,hd4,hwl.ext hsgn hsga,?_,rfl⟩;rw [vB,Nat.pow_succ];exact Nat.mul_le_mul hl hsgl
  ·rintro σ H2 ⟨s2,p,ls,v3,v4,v5,hpn,hd,hwl,hl,rfl⟩
   have hl4:ls.length<=1296:=Nat.le_trans hl (Nat.pow_le_pow_right (by decide) (show n<=4 by omega));exact ⟨_,rfl,q p ls H2 hpn s2 hd hwl (by omega)⟩
def vS:Sp:=fun vs H Q _=>∃ (cell:Int),vs=[.int cell,.int 20]∧∀ (D:Addr) (ls:List (List Nat)) (n:Nat) (H':Hp),aM H H'->H' D=some (.lst (ls.map T))->WL ls n->(1<=n∧n<=5)->ls≠[]->ls.length<=20->Q (.ref D) H'
theorem kE {f:Addr}{fd:FuncData}(F:Fun K "_law_digit_words" "_law_digit_words" cF f fd)(tt:Txt K mg ad)(C__law_every:Cal P w K mg base (CX1 P w) "_law_every" 1 ["kinds", "length"] uO):cO P w K mg base (CX1 P w) 2 f fd ["cell", "most"] vS:=by
 refine F.okN bG (fun vs H Q E h=>?_) (fun cdv A outer s H vs Q E hr h=>?_)
 ·obtain ⟨cell,rfl,_⟩:=h
  rfl
 ·obtain ⟨cell,rfl,q⟩:=h
  have hs:sizeLine=16777216:=sizeLine_eq;obtain ⟨m,hm,hm9⟩:∃ m:Nat,cell % 9=(m:Int)∧m<9:=⟨(cell % 9).toNat,by omega,by omega⟩;obtain ⟨k,n,hpr,hk,hn⟩:∃ k n:Nat,([(2,2),(2,3),(2,4),(3,2),(3,3),(4,2),(6,1),(6,2),(5,2)]:List (Int×Int))[m]?=some (((k:Nat):Int),((n:Nat):Int))∧(1<=k∧k<=6)∧(1<=n∧n<=4):=by
   match m,hm9 with
   | 0,_=>exact ⟨2,2,rfl,by decide,by decide⟩
   | 1,_=>exact ⟨2,3,rfl,by decide,by decide⟩
   | 2,_=>exact ⟨2,4,rfl,by decide,by decide⟩
   | 3,_=>exact ⟨3,2,rfl,by decide,by decide⟩
   | 4,_=>exact ⟨3,3,rfl,by decide,by decide⟩
   | 5,_=>exact ⟨4,2,rfl,by decide,by decide⟩
   | 6,_=>exact ⟨6,1,rfl,by decide,by decide⟩
   | 7,_=>exact ⟨6,2,rfl,by decide,by decide⟩
   | 8,_=>exact ⟨5,2,rfl,by decide,by decide⟩
  refine ⟨_,(aB (aJ (i:=2) bG.nd rfl (Or.inl rfl) (cU (wE [((_,_,_),(_,_,_),_,_),((_,_,_),(_,_,_),_,_),((_,_,_),(_,_,_),_,_),((_,_,_),(_,_,_),_,_),((_,_,_),(_,_,_),_,_),((_,_,_),(_,_,_),_,_),((_,_,_),(_,_,_),_,_),((_,_,_),(_,_,_),_,_),((_,_,_),(_,_,_),_,_)])))
   (aB (Mw (fV dQ (pv 2) (aL cQ (pv 0) aG) (fun _ _=>rfl)) (zG rfl (iC (bO (i:=3) bG.nd rfl (Or.inl rfl)) (iC (bO (i:=4) bG.nd rfl (Or.inl rfl)) vK))))
   (aB (aJ (i:=5) bG.nd rfl (Or.inl rfl) (aL hJ (pv 0) aG))
   (aB (aJ (i:=6) bG.nd rfl (Or.inl rfl) (cU aD))
   (aB (cM PassesOwn.never rfl (bW (aP C__law_every hr bL (wG (pv 3) (wG (pv 4) aD)))) (bO (i:=7) bG.nd rfl (Or.inl rfl)) (aB (bX (PW.pt (qE (aO eK (aL cQ (pv 5) aG) aG (aZ _)) (lL (aO qW (aN aY (by rfl) tt.b_len PySem.boot_len (wG (pv 6) aD)) (pv 1) (aZ _))))) (aF (eJ (lR PySem.F.plainAttrs_list PySem.F.slot_list_append PySem.F.type_list_append eU (pv 6) (wG (pv 7) aD)))) aW)
   (aF (aJ (i:=5) bG.nd rfl (Or.inl rfl) (aL hJ (pv 5) aG)))))
   (aB (bX (aO eK (aN aY (by rfl) tt.b_len PySem.boot_len (wG (pv 6) aD)) aG (aZ _)) (aF (aJ (i:=6) bG.nd rfl (Or.inl rfl) (cU (Pl (aL vZ (cH [97] (by decide +kernel)) (pv 4)) aD)))) aW)
   (aF (bD (pv 6))))))))),?_⟩
  (try rw [eF]);(try rw [cxK1])
  refine sK _ fun vs9 G9 hvl sG9 hv=>?_
  refine ⟨(by rw [hvl];show 9<=sizeLine;omega),fun ps hps=>?_⟩;obtain ⟨tp,htp,hT⟩:=hv m _ hpr;have s1:=sG9.trans (aI (o:=.lst vs9) hps);have hTp:=aI (o:=.lst vs9) hps tp _ hT;obtain ⟨H1,hH1,s1,hd1⟩:=uT s1;rw [<- hH1] at hTp ⊢;refine ⟨_,rfl,_,rfl,_,_,rfl,rfl,(by show (0:Int)<9;decide),ps,_,_,_,rfl,rfl,SqL.of hd1,(by rw [hm];exact dS htp),tp,_,rfl,SqT.of hTp,rfl,_,_,rfl,_,_,rfl,rfl,?_⟩;refine ⟨_,rfl,_,_,rfl,rfl,⟨by decide,by decide⟩,?_⟩;refine ⟨(by show 0<=sizeLine;omega),fun D hD=>?_⟩;have s2:=s1.trans (aI (o:=.lst []) hD);refine ⟨_,rfl,_,rfl,k,n,rfl,⟨by omega,by omega⟩,fun De es He hDe se hde hwe hel=>⟨De,rfl,⟨_,SqL.of hde⟩,?_⟩⟩;have hDD:De≠D:=fun z=>by rw [z] at hDe;exact absurd (aC.symm.trans hDe) (fun z=>nomatch z)
  have hD0:He D=some (.lst []):=se D _ aC;have hHn:H D=none:=by
   cases e:H D with
   | none=>rfl
   | some o=>exact absurd ((s1 D o e).symm.trans hD) (fun z=>nomatch z)
  refine cT (K:=K) (a:=De) (xs:=es.map T) (fun i σ H3=>aM H H3∧H3 De=some (.lst (es.map T))∧∃ (ls:List (List Nat)) (pt:Int) (v7:Option V),H3 D=some (.lst (ls.map T))∧ls.Sublist (es.take i)∧ls.length<=20∧σ=[some (.int cell),some (.int 20),some (.ref ps),some (.int (k:Nat)),some (.int (n:Nat)),some (.int pt),some (.ref D),v7])
   ⟨s2.trans se,hde,[],cell/9,none,hD0,List.nil_sublist _,by decide,rfl⟩ (fun i σ H3 _ h=>SqL.of h.2.1) ?_ ?_
  ·rintro i y σ H3 hi ⟨s3,hd3,ls,pt,v7,hdl,hsub,hl,rfl⟩
   obtain ⟨wd,hwd,rfl⟩:∃ wd,es[i]?=some wd∧y=T wd:=by
    rw [List.getElem?_map] at hi;obtain ⟨x,h1,h2⟩:=Option.map_eq_some_iff.mp hi;exact ⟨x,h1,h2.symm⟩
   have hml:(ls.map T).length=ls.length:=List.length_map ..;have etk:es.take (i+1)=es.take i++[wd]:=by rw [List.take_add_one,hwd];rfl
   refine ⟨_,rfl,_,_,rfl,rfl,(by show (0:Int)<2;decide),_,rfl,_,rfl,_,rfl,?_⟩;refine gF (fun h0=>?_) (fun h0=>?_)
   ·refine ⟨_,rfl,D,_,rfl,.inl (SqL.of hdl),_,rfl,_,_,rfl,rfl,_,rfl,?_⟩
    rw [hml];refine gF (fun h1=>?_) (fun h1=>?_)
    ·have h40:ls.length<20:=by have:=of_decide_eq_true h1;omega
     refine ⟨_,rfl,.inl ⟨rfl,_,SqL.of hdl⟩,_,rfl,D,_,_,rfl,rfl,hdl,(by rw [hml];omega),?_⟩;refine ⟨_,rfl,_,_,rfl,rfl,⟨by decide,by decide⟩,?_⟩;refine ⟨(fun b o e=>by rw [aH (aK e hHn)];exact s3 b o e),by rw [aH hDD];exact hd3,ls++[wd],pt/2,some (T wd),by rw [List.map_append];exact aC,?_,by rw [List.length_append,List.length_singleton];omega,rfl⟩;rw [etk];exact hsub.append (List.Sublist.refl _)
    ·refine ⟨_,rfl,_,_,rfl,rfl,⟨by decide,by decide⟩,?_⟩
     exact ⟨s3,hd3,ls,pt/2,some (T wd),hdl,by rw [etk];exact hsub.trans (List.sublist_append_left _ _),hl,rfl⟩
   ·refine ⟨_,rfl,_,_,rfl,rfl,⟨by decide,by decide⟩,?_⟩
    exact ⟨s3,hd3,ls,pt/2,some (T wd),hdl,by rw [etk];exact hsub.trans (List.sublist_append_left _ _),hl,rfl⟩
  ·rintro σ H3 ⟨s3,hd3,ls,pt,v7,hdl,hsub,hl,rfl⟩
   rw [List.length_map,List.take_length] at hsub;have hml:(ls.map T).length=ls.length:=List.length_map ..;refine ⟨_,rfl,D,_,rfl,.inl (SqL.of hdl),_,rfl,_,rfl,_,rfl,?_⟩;rw [hml];refine gF (fun h2=>?_) (fun h2=>?_)
   ·refine ⟨_,rfl,_,rfl,n,rfl,⟨by omega,by show n*1<=sizeLine;omega⟩,(by show 1<=sizeLine;omega),fun p7 hp7=>?_⟩
    exact ⟨_,rfl,q p7 [Wd.rep n [97]] n _ (s3.trans (aI hp7)) aC (WL.one (Ke n)) ⟨by omega,by omega⟩ (by simp) (by show 1<=20;decide)⟩
   ·exact ⟨_,rfl,q D ls n H3 s3 hdl (hwe.sub hsub) ⟨by omega,by omega⟩ (fun z=>h2 (decide_eq_true (by rw [z];rfl))) hl⟩
theorem Jb (d:Int){n:Nat}(h:0<n):∃ m:Nat,d % ((n:Nat):Int)=(m:Int)∧m<n:=by
 have z0:=Int.emod_nonneg d (show ((n:Nat):Int)≠0 by omega);have z1:=Int.emod_lt_of_pos d (show (0:Int)<((n:Nat):Int) by omega);exact ⟨(d % ((n:Nat):Int)).toNat,by omega,by omega⟩
theorem oO {α:Type}(l:List α)(m:Nat):(l.take m++l.drop (m+1)).Sublist l:=by
 have h:(l.take m++l.drop (m+1)).Sublist (l.take m++l.drop m):=(List.Sublist.refl _).append (by rw [<- List.drop_drop];exact List.drop_sublist _ _)
 rwa [List.take_append_drop] at h
theorem iK {ls:List (List Nat)}{k:Nat}(h:k<=ls.length):eE (ls.map T) (some (k:Int)) none=(ls.drop k).map T:=by
 unfold eE;rw [HT.fD,HT.fB,List.length_map,Nat.min_eq_left h,<- List.map_drop,<- List.map_take,List.take_of_length_le (by rw [List.length_drop];omega)]
theorem oU {ls:List (List Nat)}{k:Nat}(h:k<=ls.length):eE (ls.map T) none (some (k:Int))=(ls.take k).map T:=by
 unfold eE;rw [HT.fD,HT.fB,List.length_map,Nat.min_eq_left h,List.drop_zero,Nat.sub_zero,List.map_take]
def uS (K:PySem.W.Frag):Sp:=fun vs H Q _=>∃ (a:Addr) (ns:List Int),vs=[.ref a,.int 0,.int 20]∧SqL K H a (ns.map V.int)∧∀ (D:Addr) (ls:List (List Nat)) (n:Nat) (H':Hp),aM H H'->H' D=some (.lst (ls.map T))->WL ls n->(1<=n∧n<=5)->ls≠[]->ls.length<=23->Q (.ref D) H'
theorem lB {f:Addr}{fd:FuncData}(F:Fun K "_law_some_words" "_law_some_words" cK f fd)(tt:Txt K mg ad)(C__law_cell_at:Cal P w K mg base (CX1 P w) "_law_cell_at" 1 ["script", "k"] (qS K))(C__law_ring_words:Cal P w K mg base (CX1 P w) "_law_ring_words" 2 ["script", "at", "most"] (pE K))
  (C__law_digit_words:Cal P w K mg base (CX1 P w) "_law_digit_words" 2 ["cell", "most"] vS):cO P w K mg base (CX1 P w) 3 f fd ["script", "at", "most"] (uS K):=by
 refine F.okN aQ (fun vs H Q E h=>?_) (fun cdv A outer s H vs Q E hr h=>?_)
 ·obtain ⟨a,ns,rfl,_⟩:=h
  rfl
 ·obtain ⟨a,ns,rfl,hS,q⟩:=h
  have hs:sizeLine=16777216:=sizeLine_eq;refine ⟨_,(aB (aJ (i:=3) aQ.nd rfl (Or.inl rfl) (aP C__law_ring_words hr bL (aA (pv 0) (aA (pv 1) (aA (pv 2) aD)))))
   (aB (aJ (i:=4) aQ.nd rfl (Or.inl rfl) (aL cQ (aL hJ (aP C__law_cell_at hr bL (aA (pv 0) (aA (pv 1) aD))) aG) aG))
   (aB (bX (aO eK (pv 4) aG (aZ _)) (aF (bD (aP C__law_digit_words hr bL (aA (aP C__law_cell_at hr bL (aA (pv 0) (aA (aL dE (pv 1) aG) aD))) (aA (pv 2) aD))))) aW)
   (aB (aJ (i:=5) aQ.nd rfl (Or.inl rfl) (aL hJ (aP C__law_cell_at hr bL (aA (pv 0) (aA (aL dE (pv 1) aG) aD))) aG))
   (aB (bX (PW.pt (qE (aO eK (pv 4) aG (aZ _)) (lL (aO nJ (aN aY (by rfl) tt.b_len PySem.boot_len (aA (pv 3) aD)) aG (aZ _))))) (aF (aJ (i:=3) aQ.nd rfl (Or.inl rfl) (bC eX (pv 3) (bJ aG) bR))) aW)
   (aB (bX (aO eK (pv 4) aG (aZ _)) (aB (aJ (i:=5) aQ.nd rfl (Or.inl rfl) (aL cQ (pv 5) (aL Lj aG aG)))
   (aF (cM PassesOwn.never rfl (hV (by rfl) tt.b_range (aA (aL dE aG (aL cQ (pv 5) aG)) aD)) (bO (i:=6) aQ.nd rfl (Or.inl rfl)) (aB (aJ (i:=7) aQ.nd rfl (Or.inl rfl) (cH [] (by decide +kernel)))
   (aB (cM PassesOwn.never rfl (hV (by rfl) tt.b_range (aA (aN eT (by rfl) tt.b_len PySem.boot_len (aA (fV dQ (pv 3) aG (fun _ _=>rfl)) aD)) aD)) (bO (i:=8) aQ.nd rfl (Or.inl rfl)) (aB (aJ (i:=9) aQ.nd rfl (Or.inl rfl) (aL hJ (aL dE (pv 5) (aL nH (pv 6) (pv 6))) (aL dE (aL dE (aL dE (aL nH (aL nH aG (pv 8)) (pv 8)) (aL nH aG (pv 8))) (aL nH aG (pv 6))) aG)))
   (aF (aJ (i:=7) aQ.nd rfl (Or.inl rfl) (aL jR (pv 7) (fV Pe (cH [97,98,99,100,101,102] (by decide +kernel)) (aL cQ (pv 9) aG) (fun _ _=>rfl)))))))
   (aF (bX (aO gH (pv 7) (pv 3) (by with_unfolding_all rfl)) (aF (aJ (i:=3) aQ.nd rfl (Or.inl rfl) (aL jZ (pv 3) (cU (aA (pv 7) aD))))) aW))))))) aW)
   (aB (bX (PW.pt (qE (aO eK (pv 4) aG (aZ _)) (lL (aO nJ (aN aY (by rfl) tt.b_len PySem.boot_len (aA (pv 3) aD)) aG (aZ _))))) (aB (aJ (i:=3) aQ.nd rfl (Or.inl rfl) (aL jZ (bC eX (pv 3) bR (bJ (aL cQ (pv 5) (aN aY (by rfl) tt.b_len PySem.boot_len (aA (pv 3) aD))))) (bC eX (pv 3) (bJ (aL dE (aL cQ (pv 5) (aN aY (by rfl) tt.b_len PySem.boot_len (aA (pv 3) aD))) aG)) bR)))
   (aF (aJ (i:=3) aQ.nd rfl (Or.inl rfl) (aL jZ (bC eX (pv 3) bR (bJ (aL cQ (aL hJ (pv 5) aG) (aN aY (by rfl) tt.b_len PySem.boot_len (aA (pv 3) aD))))) (bC eX (pv 3) (bJ (aL dE (aL cQ (aL hJ (pv 5) aG) (aN aY (by rfl) tt.b_len PySem.boot_len (aA (pv 3) aD))) aG)) bR))))) aW)
   (aF (bD (pv 3)))))))))),?_⟩
  (try rw [eF]);(try rw [cxK1])
  refine ⟨_,rfl,_,rfl,_,rfl,a,ns,rfl,hS,fun p ls n H1 s1 hd hwl hn hne hl=>?_⟩;refine ⟨_,rfl,_,rfl,a,ns,0,rfl,s1.seq hS,_,_,rfl,rfl,⟨by decide,by decide⟩,_,_,rfl,rfl,(by show (0:Int)<5;decide),?_⟩
  dsimp only
  generalize ns.getD 0 0/7 % 5=wy;refine ⟨_,rfl,_,rfl,_,rfl,_,rfl,?_⟩;refine gF (fun h4=>?_) (fun h4=>?_)
  ·exact ⟨_,rfl,_,rfl,_,_,rfl,rfl,a,ns,1,rfl,s1.seq hS,_,rfl,_,rfl,fun D ls2 n2 H2 s2 hd2 hw2 hn2 hne2 hl2=>q D ls2 n2 H2 (s1.trans s2) hd2 hw2 hn2 hne2 (by omega)⟩
  refine ⟨_,rfl,_,rfl,_,_,rfl,rfl,a,ns,1,rfl,s1.seq hS,_,_,rfl,rfl,⟨by decide,by decide⟩,?_⟩
  dsimp only
  generalize ns.getD 1 0/8=dr;refine ⟨_,rfl,_,rfl,_,rfl,_,rfl,?_⟩;refine gF (fun h1=>?a) (fun h1=>?b)
  case' a =>
   refine ⟨_,rfl,p,_,rfl,.inl (SqL.of hd),_,_,rfl,rfl,_,rfl,?_⟩;rw [List.length_map];refine gF (fun h2=>?a1) (fun h2=>?a2)
  case' a1 =>
   have h2':1<ls.length:=by have:=of_decide_eq_true h2;omega
   refine ⟨_,rfl,_,rfl,p,_,rfl,SqL.of hd,fun p3 hp3=>?_⟩;rw [show eE (ls.map T) (some 1) none=(ls.drop 1).map T from iK (k:=1) (by omega)];obtain ⟨H3,hH3,s3,hd3⟩:=uT (s1.trans (aI (o:=.lst ((ls.drop 1).map T)) hp3));rw [<- hH3];obtain ⟨ls3,hd3,hw3,hne3,hl3⟩:∃ ls3:List (List Nat),H3 p3=some (.lst (ls3.map T))∧WL ls3 n∧ls3≠[]∧ls3.length<=20:=⟨ls.drop 1,hd3,hwl.sub (List.drop_sublist _ _),(fun z=>by have:=congrArg List.length z;rw [List.length_drop] at this;simp at this;omega),by rw [List.length_drop];omega⟩
  case' a2 =>
   obtain ⟨H3,hH3,s3⟩:=Ex s1;rw [<- hH3];obtain ⟨p3,hp3,ls3,hd3,hw3,hne3,hl3⟩:∃ p3,p3=p∧∃ ls3:List (List Nat),H3 p3=some (.lst (ls3.map T))∧WL ls3 n∧ls3≠[]∧ls3.length<=20:=⟨p,rfl,ls,by rw [hH3];exact hd,hwl,hne,hl⟩;rw [<- hp3]
  case' b =>
   obtain ⟨H3,hH3,s3⟩:=Ex s1;rw [<- hH3];obtain ⟨p3,hp3,ls3,hd3,hw3,hne3,hl3⟩:∃ p3,p3=p∧∃ ls3:List (List Nat),H3 p3=some (.lst (ls3.map T))∧WL ls3 n∧ls3≠[]∧ls3.length<=20:=⟨p,rfl,ls,by rw [hH3];exact hd,hwl,hne,hl⟩;rw [<- hp3]
  all_goals
   refine ⟨_,rfl,_,rfl,_,rfl,_,rfl,?_⟩;refine gF (fun h5=>?_) (fun h5=>?_)
   rotate_left
   ·have h40:=hl3
    refine ⟨_,rfl,_,rfl,_,rfl,_,rfl,?_⟩;refine gF (fun h7=>?_) (fun h7=>?_)
    ·refine ⟨_,rfl,p3,_,rfl,.inl (SqL.of hd3),_,_,rfl,rfl,_,rfl,?_⟩
     rw [List.length_map];refine gF (fun h8=>?_) (fun h8=>?_)
     ·have h2:2<ls3.length:=by have:=of_decide_eq_true h8;omega
      obtain ⟨m,hm,hml⟩:=Jb (dr) (show 0<(ls3.map T).length by rw [List.length_map];omega);rw [List.length_map] at hml;have c1:eE (ls3.map T) none (some (dr % (((ls3.map T).length:Nat):Int)))=(ls3.take m).map T:=by rw [hm];exact oU (by omega)
      have c2:eE (ls3.map T) (some (dr % (((ls3.map T).length:Nat):Int)+1)) none=(ls3.drop (m+1)).map T:=by rw [hm];exact iK (k:=m+1) (by omega)
      refine ⟨_,rfl,_,rfl,_,rfl,p3,_,rfl,.inl (SqL.of hd3),_,_,rfl,rfl,(by show (0:Int)<(((ls3.map T).length:Nat):Int);rw [List.length_map];omega),_,rfl,p3,_,rfl,SqL.of hd3,fun q1 hq1=>?_⟩;rw [c1];have t1:=aI (o:=.lst ((ls3.take m).map T)) hq1;refine ⟨_,rfl,_,rfl,_,rfl,p3,_,rfl,.inl (SqL.of (t1 p3 _ hd3)),_,_,rfl,rfl,(by show (0:Int)<(((ls3.map T).length:Nat):Int);rw [List.length_map];omega),_,_,rfl,rfl,_,rfl,p3,_,rfl,SqL.of (t1 p3 _ hd3),fun q2 hq2=>?_⟩;rw [c2];have t2:=aI (o:=.lst ((ls3.drop (m+1)).map T)) hq2;refine ⟨q1,q2,_,_,rfl,rfl,SqL.of (t2 q1 _ aC),SqL.of aC,(by rw [List.length_map,List.length_map,List.length_take,List.length_drop];omega),fun q3 hq3=>?_⟩;have t3:=t1.trans (t2.trans (aI (o:=.lst ((ls3.take m).map T++(ls3.drop (m+1)).map T)) hq3));obtain ⟨H8,hH8,t3,hd8⟩:=uT t3;rw [<- hH8];obtain ⟨ms,hms,hsub,hmsl⟩:∃ ms:List (List Nat),(ls3.take m).map T++(ls3.drop (m+1)).map T=ms.map T∧ms.Sublist ls3∧ms.length=ls3.length-1:=⟨ls3.take m++ls3.drop (m+1),by rw [List.map_append],oO _ _,by rw [List.length_append,List.length_take,List.length_drop];omega⟩;rw [hms] at hd8;obtain ⟨m',hm',hml'⟩:=Jb (dr/7) (show 0<(ms.map T).length by rw [List.length_map];omega);rw [List.length_map] at hml';have c3:eE (ms.map T) none (some (dr/7 % (((ms.map T).length:Nat):Int)))=(ms.take m').map T:=by rw [hm'];exact oU (by omega)
      have c4:eE (ms.map T) (some (dr/7 % (((ms.map T).length:Nat):Int)+1)) none=(ms.drop (m'+1)).map T:=by rw [hm'];exact iK (k:=m'+1) (by omega)
      refine ⟨_,rfl,_,rfl,_,_,rfl,rfl,⟨by decide,by decide⟩,_,rfl,q3,_,rfl,.inl (SqL.of hd8),_,_,rfl,rfl,(by show (0:Int)<(((ms.map T).length:Nat):Int);rw [List.length_map];omega),_,rfl,q3,_,rfl,SqL.of hd8,fun q4 hq4=>?_⟩;rw [c3];have t4:=aI (o:=.lst ((ms.take m').map T)) hq4;refine ⟨_,rfl,_,rfl,_,_,rfl,rfl,⟨by decide,by decide⟩,_,rfl,q3,_,rfl,.inl (SqL.of (t4 q3 _ hd8)),_,_,rfl,rfl,(by show (0:Int)<(((ms.map T).length:Nat):Int);rw [List.length_map];omega),_,_,rfl,rfl,_,rfl,q3,_,rfl,SqL.of (t4 q3 _ hd8),fun q5 hq5=>?_⟩;rw [c4];have t5:=aI (o:=.lst ((ms.drop (m'+1)).map T)) hq5;refine ⟨q4,q5,_,_,rfl,rfl,SqL.of (t5 q4 _ aC),SqL.of aC,(by rw [List.length_map,List.length_map,List.length_take,List.length_drop];omega),fun q6 hq6=>?_⟩;have t6:=t4.trans (t5.trans (aI (o:=.lst ((ms.take m').map T++(ms.drop (m'+1)).map T)) hq6));have hl9:(ms.take m'++ms.drop (m'+1)).length=ms.length-1:=by rw [List.length_append,List.length_take,List.length_drop];omega
      exact ⟨_,rfl,q q6 (ms.take m'++ms.drop (m'+1)) n _ ((s3).trans (t3.trans t6)) (by rw [List.map_append];exact aC) ((hw3).sub ((oO _ _).trans hsub)) hn (fun z=>by rw [z] at hl9;simp at hl9;omega) (by omega)⟩
     ·exact ⟨_,rfl,q p3 ls3 n _ s3 hd3 hw3 hn hne3 (by omega)⟩
    ·exact ⟨_,rfl,q p3 ls3 n _ s3 hd3 hw3 hn hne3 (by omega)⟩
   refine ⟨_,rfl,_,_,rfl,rfl,⟨by decide,by decide,by decide⟩,_,_,rfl,rfl,(by show (0:Int)<10 ^ 9;decide),?_⟩
   dsimp only
   generalize dr % 10 ^ Int.toNat 9=d2;refine ⟨_,rfl,_,_,rfl,rfl,(by show (0:Int)<3;decide),_,_,rfl,rfl,_,rfl,by omega,by omega,?_⟩;obtain ⟨N,hN,hN3⟩:∃ N:Nat,1+d2 % 3=(N:Int)∧N<=3:=⟨(1+d2 % 3).toNat,by omega,by omega⟩;rw [hN,Int.toNat_natCast];refine hZ (fun i σ Hk=>aM H Hk∧∃ (pk:Addr) (lk:List (List Nat)) (v6 v7 v8 v9:Option V),Hk pk=some (.lst (lk.map T))∧WL lk n∧lk≠[]∧lk.length<=20+i∧σ=[some (.ref a),some (.int 0),some (.int 20),some (.ref pk),some (.int wy),some (.int d2),v6,v7,v8,v9])
    ⟨s3,p3,ls3,none,none,none,none,hd3,hw3,hne3,by omega,rfl⟩ ?_ ?_
   ·rintro i σ Hk hi ⟨sk,pk,lk,v6,v7,v8,v9,hdk,hwk,hnek,hlk,rfl⟩
    obtain ⟨m0,hm0⟩:∃ m0,lk[0]?=some m0:=⟨_,List.getElem?_eq_getElem (List.length_pos_iff.mpr hnek)⟩;have hm0l:=(hwk.1 m0 (List.mem_of_getElem? hm0)).1;refine ⟨_,rfl,pk,_,_,_,rfl,rfl,SqL.of hdk,dS (j:=0) (by rw [List.getElem?_map,hm0];rfl),_,rfl,(by omega),_,rfl,by omega,by omega,?_⟩;rw [hm0l,Int.toNat_natCast];refine hZ (fun j σ Hj=>Hk=Hj∧∃ (t:List Nat) (v8 v9:Option V),t.length=j∧Abc t∧σ=[some (.ref a),some (.int 0),some (.int 20),some (.ref pk),some (.int wy),some (.int d2),some (.int (0+(i:Int))),some (T t),v8,v9])
     ⟨rfl,[],v8,v9,rfl,(fun c hc=>by simp at hc),rfl⟩ ?_ ?_
    ·rintro j σ Hj hj ⟨rfl,t,v8,v9,ht,hab,rfl⟩
     obtain ⟨sq,hsq,sq0,sq1⟩:∃ sq:Int,3*(0+(j:Int))*(0+(j:Int))=sq∧0<=sq∧sq<=75:=by
      rcases (show j=0∨j=1∨j=2∨j=3∨j=4 by omega) with rfl | rfl | rfl | rfl | rfl <;> exact ⟨_,rfl,by decide,by decide⟩
     refine ⟨_,rfl,_,rfl,_,rfl,_,_,rfl,rfl,.inl ⟨by omega,by omega⟩,_,_,rfl,rfl,_,rfl,_,_,rfl,rfl,.inl ⟨by decide,by decide⟩,_,rfl,_,_,rfl,rfl,.inl ⟨by omega,by omega⟩,_,rfl,_,_,rfl,rfl,.inl ⟨by decide,by decide⟩,_,_,rfl,rfl,_,rfl,_,_,rfl,rfl,.inl ⟨by decide,by decide⟩,_,_,rfl,rfl,_,_,rfl,rfl,_,_,rfl,rfl,
      ⟨(by show (0:Int)<3*(0+(j:Int))*(0+(j:Int))+5*(0+(j:Int))+7*(0+(i:Int))+1;rw [hsq];omega),(by show 3*(0+(j:Int))*(0+(j:Int))+5*(0+(j:Int))+7*(0+(i:Int))+1<(1073741824:Int);rw [hsq];omega)⟩,?_⟩
     dsimp only
     generalize (d2+(0+(i:Int))*(0+(i:Int)))/(3*(0+(j:Int))*(0+(j:Int))+5*(0+(j:Int))+7*(0+(i:Int))+1)=pt;obtain ⟨c,hc,c0,c1⟩:=Gb (Int.emod_nonneg pt (show (6:Int)≠0 by decide)) (Int.emod_lt_of_pos pt (show (0:Int)<6 by decide));refine ⟨_,rfl,_,rfl,_,_,rfl,rfl,(by show (0:Int)<6;decide),_,rfl,_,rfl,(by show 6<=sizeLine;omega),c,hc,_,rfl,_,rfl,(by show t.length+1<=sizeLine;omega),?_⟩;refine ⟨rfl,t++[c],some (.int (0+(j:Int))),some (.int pt),by rw [List.length_append,ht];rfl,fun e he=>?_,rfl⟩;rcases List.mem_append.mp he with g | g
     ·exact hab e g
     ·have e':e=c:=by simpa using g
      subst e';exact ⟨c0,c1⟩
    ·rintro σ Hj ⟨rfl,t,v8,v9,ht,hab,rfl⟩
     refine ⟨_,rfl,_,rfl,pk,_,rfl,.inl (SqL.of hdk),rfl,gM lk,_,rfl,?_⟩;refine gF (fun h0=>?_) (fun h0=>?_)
     ·have hni:¬ t∈lk:=fun z=>by
       have h1:(!inV (T t) (lk.map T))=true:=h0;rw [qI,decide_eq_true z] at h1;cases h1
      refine ⟨_,rfl,_,rfl,(by show 1<=sizeLine;omega),fun q1 hq1=>?_⟩;have t1:=aI (o:=.lst [T t]) hq1;refine ⟨pk,q1,_,_,rfl,rfl,SqL.of (t1 pk _ hdk),SqL.of aC,(by rw [List.length_map];show _+1<=sizeLine;omega),fun q2 hq2=>?_⟩;exact ⟨sk.trans (t1.trans (aI hq2)),q2,lk++[t],some (.int (0+(i:Int))),some (T t),v8,v9,by rw [List.map_append];exact aC,hwk.snoc ⟨ht,hab⟩ hni,by simp,by rw [List.length_append,List.length_singleton];omega,rfl⟩
     ·exact ⟨sk,pk,lk,some (.int (0+(i:Int))),some (T t),v8,v9,hdk,hwk,hnek,by omega,rfl⟩
   ·rintro σ Hk ⟨sk,pk,lk,v6,v7,v8,v9,hdk,hwk,hnek,hlk,rfl⟩
    refine ⟨_,rfl,_,rfl,_,rfl,_,rfl,?_⟩;refine gF (fun h7=>?_) (fun h7=>?_)
    ·refine ⟨_,rfl,pk,_,rfl,.inl (SqL.of hdk),_,_,rfl,rfl,_,rfl,?_⟩
     rw [List.length_map];refine gF (fun h8=>?_) (fun h8=>?_)
     ·have h2:2<lk.length:=by have:=of_decide_eq_true h8;omega
      obtain ⟨m,hm,hml⟩:=Jb (d2) (show 0<(lk.map T).length by rw [List.length_map];omega);rw [List.length_map] at hml;have c1:eE (lk.map T) none (some (d2 % (((lk.map T).length:Nat):Int)))=(lk.take m).map T:=by rw [hm];exact oU (by omega)
      have c2:eE (lk.map T) (some (d2 % (((lk.map T).length:Nat):Int)+1)) none=(lk.drop (m+1)).map T:=by rw [hm];exact iK (k:=m+1) (by omega)
      refine ⟨_,rfl,_,rfl,_,rfl,pk,_,rfl,.inl (SqL.of hdk),_,_,rfl,rfl,(by show (0:Int)<(((lk.map T).length:Nat):Int);rw [List.length_map];omega),_,rfl,pk,_,rfl,SqL.of hdk,fun q1 hq1=>?_⟩;rw [c1];have t1:=aI (o:=.lst ((lk.take m).map T)) hq1;refine ⟨_,rfl,_,rfl,_,rfl,pk,_,rfl,.inl (SqL.of (t1 pk _ hdk)),_,_,rfl,rfl,(by show (0:Int)<(((lk.map T).length:Nat):Int);rw [List.length_map];omega),_,_,rfl,rfl,_,rfl,pk,_,rfl,SqL.of (t1 pk _ hdk),fun q2 hq2=>?_⟩;rw [c2];have t2:=aI (o:=.lst ((lk.drop (m+1)).map T)) hq2;refine ⟨q1,q2,_,_,rfl,rfl,SqL.of (t2 q1 _ aC),SqL.of aC,(by rw [List.length_map,List.length_map,List.length_take,List.length_drop];omega),fun q3 hq3=>?_⟩;have t3:=t1.trans (t2.trans (aI (o:=.lst ((lk.take m).map T++(lk.drop (m+1)).map T)) hq3));obtain ⟨H8,hH8,t3,hd8⟩:=uT t3;rw [<- hH8];obtain ⟨ms,hms,hsub,hmsl⟩:∃ ms:List (List Nat),(lk.take m).map T++(lk.drop (m+1)).map T=ms.map T∧ms.Sublist lk∧ms.length=lk.length-1:=⟨lk.take m++lk.drop (m+1),by rw [List.map_append],oO _ _,by rw [List.length_append,List.length_take,List.length_drop];omega⟩;rw [hms] at hd8;obtain ⟨m',hm',hml'⟩:=Jb (d2/7) (show 0<(ms.map T).length by rw [List.length_map];omega);rw [List.length_map] at hml';have c3:eE (ms.map T) none (some (d2/7 % (((ms.map T).length:Nat):Int)))=(ms.take m').map T:=by rw [hm'];exact oU (by omega)
      have c4:eE (ms.map T) (some (d2/7 % (((ms.map T).length:Nat):Int)+1)) none=(ms.drop (m'+1)).map T:=by rw [hm'];exact iK (k:=m'+1) (by omega)
      refine ⟨_,rfl,_,rfl,_,_,rfl,rfl,⟨by decide,by decide⟩,_,rfl,q3,_,rfl,.inl (SqL.of hd8),_,_,rfl,rfl,(by show (0:Int)<(((ms.map T).length:Nat):Int);rw [List.length_map];omega),_,rfl,q3,_,rfl,SqL.of hd8,fun q4 hq4=>?_⟩;rw [c3];have t4:=aI (o:=.lst ((ms.take m').map T)) hq4;refine ⟨_,rfl,_,rfl,_,_,rfl,rfl,⟨by decide,by decide⟩,_,rfl,q3,_,rfl,.inl (SqL.of (t4 q3 _ hd8)),_,_,rfl,rfl,(by show (0:Int)<(((ms.map T).length:Nat):Int);rw [List.length_map];omega),_,_,rfl,rfl,_,rfl,q3,_,rfl,SqL.of (t4 q3 _ hd8),fun q5 hq5=>?_⟩;rw [c4];have t5:=aI (o:=.lst ((ms.drop (m'+1)).map T)) hq5;refine ⟨q4,q5,_,_,rfl,rfl,SqL.of (t5 q4 _ aC),SqL.of aC,(by rw [List.length_map,List.length_map,List.length_take,List.length_drop];omega),fun q6 hq6=>?_⟩;have t6:=t4.trans (t5.trans (aI (o:=.lst ((ms.take m').map T++(ms.drop (m'+1)).map T)) hq6));have hl9:(ms.take m'++ms.drop (m'+1)).length=ms.length-1:=by rw [List.length_append,List.length_take,List.length_drop];omega
      exact ⟨_,rfl,q q6 (ms.take m'++ms.drop (m'+1)) n _ ((sk).trans (t3.trans t6)) (by rw [List.map_append];exact aC) ((hwk).sub ((oO _ _).trans hsub)) hn (fun z=>by rw [z] at hl9;simp at hl9;omega) (by omega)⟩
     ·exact ⟨_,rfl,q pk lk n _ sk hdk hwk hn hnek (by omega)⟩
    ·exact ⟨_,rfl,q pk lk n _ sk hdk hwk hn hnek (by omega)⟩
def uE:Sp:=fun vs H Q _=>∃ x:Int,vs=[.int x,.int x]∧Q (.bl true) H
theorem rQ {f:Addr}{fd:FuncData}(F:Fun K "_law_whole" "_law_whole" fA f fd)(tt:Txt K mg ad):cO P w K mg base (CX1 P w) 1 f fd ["found", "due"] uE:=by
 refine F.okN rR (fun vs H Q E h=>?_) (fun cdv A outer s H vs Q E hr h=>?_)
 ·obtain ⟨x,rfl,_⟩:=h
  rfl
 ·obtain ⟨x,rfl,q⟩:=h
  refine ⟨_,(aF (bD (yJ (aN jP (by rfl) tt.b_isinstance PyProof.Rows.boot_isinstance (aA (pv 0) (aA (vR (v:=.ty "int") (u:=.type "int") (by rfl) tt.b_int (by decide +kernel) rfl) aD))) (yJ (Mo (aN jP (by rfl) tt.b_isinstance PyProof.Rows.boot_isinstance (aA (pv 0) (aA (vR (v:=.ty "bool") (u:=.type "bool") (by rfl) tt.b_bool (by decide +kernel) rfl) aD)))) (Es (oS eK (pv 0) (pv 1) (aZ _))))))),?_⟩
  (try rw [eF]);(try rw [cxK1])
  refine ⟨_,rfl,_,_,_,_,rfl,.int _,xW _,_,rfl,wF ?_⟩;refine ⟨_,rfl,_,_,_,_,rfl,.int _,vH,_,rfl,_,rfl,wF ?_⟩;refine ⟨_,rfl,_,rfl,_,rfl,_,rfl,?_⟩;rw [decide_eq_true rfl];exact q
def cKs (ls:List (List Nat))(cw:List Nat->List Nat):List (Key×V):=ls.map fun t=>(Sum.inr (tx t),T (cw t))
theorem uN {ls:List (List Nat)}{cw:List Nat->List Nat}:(cKs ls cw).length=ls.length:=by unfold cKs;rw [List.length_map]
theorem uG {t:List Nat}{cw:List Nat->List Nat}:∀ {ls:List (List Nat)},fF (cKs ls cw) (Sum.inr (tx t))=if t∈ls then some (T (cw t)) else none
 | []=>by simp [cKs,fF]
 | l::ls=>by
  have ih:=@uG t cw ls;by_cases h:l=t
  ·subst h
   rw [if_pos (List.mem_cons_self ..)];exact fZ rfl
  ·show fF ((Sum.inr (tx l),T (cw l))::cKs ls cw) _=_
   rw [fT (fun z=>h (fG (Sum.inr.inj z))),ih];by_cases h2:t∈ls
   ·rw [if_pos h2,if_pos (List.mem_cons_of_mem _ h2)]
   ·rw [if_neg h2,if_neg (fun z=>(List.mem_cons.mp z).elim (fun e=>h e.symm) h2)]
def stT (ls:List (List Nat))(cw:List Nat->List Nat)(t:List Nat):List Nat:=if t∈ls then (cw t).drop 1 else t
def itT (ls:List (List Nat))(cw:List Nat->List Nat):Nat->List Nat->List Nat
 | 0,t=>t
 | k+1,t=>stT ls cw (itT ls cw k t)
def nA (ls:List (List Nat))(cw:List Nat->List Nat):Bool:=ls.all fun t=>decide (itT ls cw ls.length t∉ls)
def uD:Sp:=fun vs H Q _=>∃ (a:Addr) (ls:List (List Nat)) (cw:List Nat->List Nat),vs=[.ref a]∧H a=some (.dK (cKs ls cw))∧(ls.length<=1000∧∀ t∈ls,1<=(cw t).length∧(cw t).length<=1000)∧Q (.bl (nA ls cw)) H
theorem rW {f:Addr}{fd:FuncData}(F:Fun K "_law_comes" "_law_comes" eW f fd)(tt:Txt K mg ad):cO P w K mg base (CX1 P w) 1 f fd ["chosen"] uD:=by
 refine F.okN fC (fun vs H Q E h=>?_) (fun cdv A outer s H vs Q E hr h=>?_)
 ·obtain ⟨a,ls,cw,rfl,_⟩:=h
  rfl
 ·obtain ⟨a,ls,cw,rfl,hd,⟨hl,hw⟩,q⟩:=h
  have hs:sizeLine=16777216:=sizeLine_eq;refine ⟨_,(aB (cM PassesOwn.never rfl (Jm (pv 0)) (bO (i:=1) fC.nd rfl (Or.inl rfl)) (aB (aJ (i:=2) fC.nd rfl (Or.inl rfl) (pv 1))
   (aB (cM PassesOwn.never rfl (hV (by rfl) tt.b_range (aA (aN Ca (by rfl) tt.b_len PySem.boot_len (aA (pv 0) aD)) aD)) (bO (i:=3) fC.nd rfl (Or.inl rfl)) (aF (bX (qB (Ft (fO hr) (pv 2) (pv 0))) (aF (aJ (i:=2) fC.nd rfl (Or.inl rfl) (bC jS (vF (fO hr) (pv 0) (pv 2) (fun _ _=>rfl)) (bJ aG) bR))) aW)))
   (aF (bX (qB (Ft (fO hr) (pv 2) (pv 0))) (aF (bD (wC kL))) aW)))))
   (aF (bD (wC kL)))),?_⟩
  (try rw [eF]);(try rw [cxK1])
  refine ⟨_,rfl,a,_,rfl,hd,fun o=>?_⟩;have hfr:upd H a (.frz o (.dK (cKs ls cw))) a=some (.frz o (.dK (cKs ls cw))):=aC;have back:upd (upd H a (.frz o (.dK (cKs ls cw)))) a (.dK (cKs ls cw))=H:=by
   rw [Bb]
   funext b
   by_cases hb:b=a
   ·subst hb
    rw [aC,hd]
   ·rw [aH hb]
  have hget:∀ t:List Nat,jT (upd H a (.frz o (.dK (cKs ls cw)))) a (T t) (if t∈ls then some (T (cw t)) else none):=fun t=>by
   rw [<- uG];exact .inl ⟨cKs ls cw,Sum.inr (tx t),.inr ⟨o,hfr⟩,rfl,rfl⟩
  refine En (fun i σ H2=>H2=upd H a (.frz o (.dK (cKs ls cw)))∧∃ (v1 v2 v3:Option V),((ls.take i).all fun t=>decide (itT ls cw ls.length t∉ls))=true∧σ=[some (.ref a),v1,v2,v3]) ⟨rfl,none,none,none,rfl,rfl⟩ (fun i σ H2 _ h=>by rw [h.1];exact hfr) ?_ ?_
  ·rintro i kv σ H2 hi ⟨rfl,v1,v2,v3,hall,rfl⟩
   obtain ⟨t,ht,rfl⟩:∃ t,ls[i]?=some t∧(Sum.inr (tx t),T (cw t))=kv:=by unfold cKs at hi;rw [List.getElem?_map] at hi;exact Option.map_eq_some_iff.mp hi
   have htk:ls.take (i+1)=ls.take i++[t]:=by rw [List.take_add_one,ht];rfl
   refine ⟨_,rfl,_,rfl,a,_,rfl,.inr ⟨o,hfr⟩,_,rfl,?_⟩;rw [uN];refine ⟨(by omega),(by omega),?_⟩;refine hZ (fun j σ H3=>H3=upd H a (.frz o (.dK (cKs ls cw)))∧∃ (v3:Option V),σ=[some (.ref a),some (T t),some (T (itT ls cw j t)),v3]) ⟨rfl,v3,rfl⟩ ?_ ?_
   ·rintro j σ H3 hj ⟨rfl,v3,rfl⟩
    refine ⟨_,rfl,_,rfl,a,_,rfl,hget _,_,rfl,?_⟩;by_cases hm:itT ls cw j t∈ls
    ·have hwl:=hw _ hm
     refine itP (by rw [if_pos hm];rfl) ?_;refine ⟨_,rfl,_,rfl,a,_,rfl,(by have g:=hget (itT ls cw j t);rw [if_pos hm] at g;exact g),_,rfl,_,rfl,(by omega),?_⟩;rw [show gB (cw (itT ls cw j t)) (some 1) none=(cw (itT ls cw j t)).drop 1 from iE (k:=1) hwl.1];refine ⟨rfl,some (.int (0+(j:Int))),?_⟩;show _=[_,_,some (T (stT ls cw (itT ls cw j t))),_];unfold stT;rw [if_pos hm];rfl
    ·refine itN (by rw [if_neg hm];exact Bool.false_ne_true) ?_
     refine ⟨rfl,some (.int (0+(j:Int))),?_⟩;show _=[_,_,some (T (stT ls cw (itT ls cw j t))),_];unfold stT;rw [if_neg hm];rfl
   ·rintro σ H3 ⟨rfl,v3,rfl⟩
    rw [Int.toNat_natCast];refine ⟨_,rfl,_,rfl,a,_,rfl,hget _,_,rfl,?_⟩;by_cases hm:itT ls cw ls.length t∈ls
    ·refine itP (by rw [if_pos hm];rfl) ?_
     refine ⟨a,o,_,_,hfr,hd,?_⟩;rw [back];have e:nA ls cw=false:=by
      cases hc:nA ls cw with
      | false=>rfl
      | true=>exact absurd hm (of_decide_eq_true (List.all_eq_true.mp hc t (List.mem_of_getElem? ht)))
     rw [e] at q;exact q
    ·refine itN (by rw [if_neg hm];exact Bool.false_ne_true) ?_
     refine ⟨rfl,_,_,_,?_,rfl⟩;rw [htk,List.all_append,hall];simp [hm]
  ·rintro σ H2 ⟨rfl,v1,v2,v3,hall,rfl⟩
   rw [uN,List.take_length] at hall;refine ⟨a,o,_,_,hfr,hd,?_⟩;rw [back];have e:nA ls cw=true:=hall;rw [e] at q;exact q
def yV (K:PySem.W.Frag):Sp:=fun vs H Q _=>∃ (a:Addr) (ns:List Int) (M:Nat),vs=[.ref a,.int (M:Nat)]∧SqL K H a (ns.map V.int)∧(1<=M∧M<=10 ^ 18)∧∀ (D:Addr) (qs:List Int) (H':Hp),aM H H'->H' D=some (.lst (qs.map V.int))->qs.Pairwise (· < ·)->(∀ z∈qs,0<=z∧z<(M:Int))->((M:Int)-1)∈qs->Q (.ref D) H'
theorem oH {f:Addr}{fd:FuncData}(F:Fun K "_law_numbers" "_law_numbers" dJ f fd)(tt:Txt K mg ad):cO P w K mg base (CX1 P w) 1 f fd ["script", "many"] (yV K):=by
 refine F.okN dY (fun vs H Q E h=>?_) (fun cdv A outer s H vs Q E hr h=>?_)
 ·obtain ⟨a,ns,M,rfl,_⟩:=h
  rfl
 ·obtain ⟨a,ns,M,rfl,hS,⟨hM1,hM2⟩,q⟩:=h
  have hs:sizeLine=16777216:=sizeLine_eq;have hM3:M<=1000000000000000000:=hM2;refine ⟨_,(aB (aJ (i:=2) dY.nd rfl (Or.inl rfl) aG)
   (aB (aJ (i:=3) dY.nd rfl (Or.inl rfl) (cU (aA aG (aA (aL gO (pv 1) aG) aD))))
   (aB (cM PassesOwn.never rfl (bW (bC eX (pv 0) bR (bJ aG))) (bO (i:=4) dY.nd rfl (Or.inl rfl)) (aB (aJ (i:=2) dY.nd rfl (Or.inl rfl) (aL cQ (aL dE (aL nH (pv 2) aG) (pv 4)) (pv 1)))
   (aF (eJ (lR PySem.F.plainAttrs_list PySem.F.slot_list_append PySem.F.type_list_append eU (pv 3) (aA (pv 2) aD))))))
   (aF (bD (aN (uU rfl) (by rfl) tt.b_sorted PyProof.Rows.boot_sorted (aA (dA (Bw rfl) (by rfl) tt.b_set (by decide +kernel) (aA (pv 3) aD)) aD))))))),?_⟩
  (try rw [eF]);(try rw [cxK1])
  refine ⟨_,rfl,_,_,rfl,rfl,(by show 2<=sizeLine;omega),fun D hD=>?_⟩;have sD:=aI (o:=.lst [.int 0,.int ((M:Int)-1)]) hD;obtain ⟨cs,hcs⟩:∃ cs:List Int,eE (ns.map V.int) none (some (2:Int))=cs.map V.int:=⟨(ns.drop _).take _,by unfold eE;rw [<- List.map_drop,<- List.map_take]⟩;have hcl:cs.length<=2:=by
   have h1:=congrArg List.length hcs;rw [List.length_map] at h1;rw [<- h1];unfold eE;rw [List.length_take,HT.fB,show HT.sIx (ns.map V.int).length (ns.map V.int).length (some (2:Int))=min 2 (ns.map V.int).length from HT.fD _ _ 2];omega
  refine ⟨_,rfl,_,rfl,a,_,rfl,sD.seq hS,fun p4 hp4=>?_⟩;rw [hcs];have s4:=aI (o:=.lst (cs.map V.int)) hp4;have hp4D:D≠p4:=fun z=>by rw [<- z,aC] at hp4;cases hp4
  have hpn:H p4=none:=by
   cases e:H p4 with
   | none=>rfl
   | some o=>rw [sD p4 o e] at hp4;cases hp4
  refine ⟨p4,rfl,⟨_,SqL.of aC⟩,?_⟩;refine cT (K:=K) (a:=p4) (xs:=cs.map V.int) (fun i σ G=>aM H G∧G p4=some (.lst (cs.map V.int))∧∃ (md:Int) (qs:List Int) (v4:Option V),(0<=md∧md<(M:Int))∧G D=some (.lst (qs.map V.int))∧qs.length<=2+i∧(∀ z∈qs,0<=z∧z<(M:Int))∧((M:Int)-1)∈qs∧σ=[some (.ref a),some (.int (M:Nat)),some (.int md),some (.ref D),v4])
   ⟨sD.trans s4,aC,0,[0,(M:Int)-1],none,⟨by omega,by omega⟩,s4 D _ aC,(by show 2<=2+0;omega),fun z hz=>by
    rcases List.mem_cons.mp hz with h | h
    ·omega
    ·have:=List.mem_singleton.mp h;omega,by simp,rfl⟩ (fun i σ G _ h=>SqL.of h.2.1) ?_ ?_
  ·rintro i y σ G hi ⟨sG,h4,md,qs,v4,hmd,hd,hql,hqs,hqm,rfl⟩
   have hil:i<cs.length:=by have:=(List.getElem?_eq_some_iff.mp hi).1;rw [List.length_map] at this;exact this
   obtain ⟨z,_,rfl⟩:=List.mem_map.mp (List.mem_of_getElem? hi);refine ⟨_,rfl,_,_,rfl,rfl,.inr ⟨by decide,by decide⟩,_,rfl,_,_,rfl,rfl,_,rfl,_,_,rfl,rfl,(by omega),?_⟩;have z0:=Int.emod_nonneg (md*1000003+z) (show (M:Int)≠0 by omega);have z1:=Int.emod_lt_of_pos (md*1000003+z) (show (0:Int)<(M:Int) by omega);refine ⟨_,rfl,.inl ⟨rfl,_,SqL.of hd⟩,_,rfl,D,_,_,rfl,rfl,hd,(by rw [List.length_map];omega),?_⟩;refine ⟨fun b o e=>by rw [aH (aK e hD)];exact sG b o e,by rw [aH hp4D.symm];exact h4,(md*1000003+z) % (M:Int),qs++[(md*1000003+z) % (M:Int)],_,⟨z0,z1⟩,by rw [aC,List.map_append];rfl,by rw [List.length_append];show _+1<=_;omega,fun y hy=>?_,List.mem_append_left _ hqm,rfl⟩;rcases List.mem_append.mp hy with h | h
   ·exact hqs y h
   ·rw [List.mem_singleton.mp h];exact ⟨z0,z1⟩
  ·rintro σ G ⟨sG,h4,md,qs,v4,hmd,hd,hql,hqs,hqm,rfl⟩
   rw [List.length_map] at hql;refine ⟨_,rfl,D,qs,rfl,SqL.of hd,by omega,fun S ms hSn hnd hml hmm=>?_⟩;have s5:=aI (o:=Cz w S ms) hSn;refine ⟨S,ms,rfl,aC,by omega,fun so E hE hp hw=>?_⟩;have s6:=aI (o:=.lst (so.map V.int)) hE;refine q E so _ (sG.trans (s5.trans s6)) aC ?_ (fun z hz=>hqs z ((hmm z).mp (hp.mem_iff.mp hz))) (hp.mem_iff.mpr ((hmm _).mpr hqm));exact List.Pairwise.imp₂ (fun a b h1 h2=>by omega) hw (hp.nodup_iff.mpr hnd)
def lC (ms:List (List Nat))(p:List Nat)(ts:List (List Nat)):Prop:=ts.Pairwise (· < ·)∧∀ z,z∈ts↔IsP ms z∧z≠p
theorem lC.nd {ms ts:List (List Nat)}{p:List Nat}(h:lC ms p ts):ts.Nodup:=h.1.imp fun z e=>absurd (e▸z) (List.lt_irrefl _)
theorem lC.no {ms ts:List (List Nat)}{p:List Nat}(h:lC ms p ts):p∉ts:=fun z=>((h.2 p).mp z).2 rfl
theorem lC.uniq {ms ts us:List (List Nat)}{p:List Nat}(h:lC ms p ts)(g:lC ms p us):us=ts:=by
 have ns:∀ {l:List (List Nat)},l.Pairwise (· < ·)->l.Pairwise fun a b=>¬ b<a:=fun h=>h.imp fun z e=>List.lt_irrefl _ (List.lt_trans z e)
 exact Wd.nQ ((List.perm_ext_iff_of_nodup g.nd h.nd).mpr fun z=>by rw [h.2,g.2]) (ns g.1) (ns h.1)
theorem lC.len60 {ms ts:List (List Nat)}{p:List Nat}(h:lC ms p ts)(hl:ms.length<=30):ts.length<=60:=by
 have h1:=Dt.oN (b:=ms.map beg++ms.map fun w=>w.drop 1) h.nd fun z hz=>by
  obtain ⟨w,hw,e | e⟩:=((h.2 z).mp hz).1
  ·exact List.mem_append_left _ (e▸List.mem_map_of_mem hw)
  ·exact List.mem_append_right _ (e▸List.mem_map_of_mem hw)
 rw [List.length_append,List.length_map,List.length_map] at h1;omega
theorem Az {ms ps:List (List Nat)}{p:List Nat}(hpw:ps.Pairwise (fun a b=>¬ b<a))(hpn:ps.Nodup)(hpm:∀ z,z∈ps↔IsP ms z):lC ms p (ps.filter fun o=>decide (o≠p)):=⟨(Dt.Ht hpn hpw).filter _,fun z=>by rw [List.mem_filter,hpm,decide_eq_true_iff]⟩
theorem lU {ms:List (List Nat)}{t w:List Nat}(h:w∈bU ms t):w∈ms∧Wd.beg w=t:=⟨(List.mem_filter.mp h).1,of_decide_eq_true (List.mem_filter.mp h).2⟩
theorem Ja {ms:List (List Nat)}{t w:List Nat}(h:w∈ms)(e:Wd.beg w=t):w∈bU ms t:=List.mem_filter.mpr ⟨h,decide_eq_true e⟩
theorem iU {ms ts us:List (List Nat)}(hn:ts.Nodup):us∈Dt.trs ts ts (bU ms)↔us.map Wd.beg=ts∧(∀ w∈us,w∈ms)∧Dt.cmT ts (Dt.pk us)=true:=by
 rw [Dt.Aq hn fun t _ w hw=>(lU hw).2];refine and_congr_right fun h1=>?_
 rw [Dt.kC (f':=Dt.pk us) fun t ht=>if_pos ht];exact and_congr_left fun _=>⟨fun h w hw=>(lU (h w hw)).1,fun h w hw=>Ja (h w hw) rfl⟩
def qF (K:PySem.W.Frag)(C:Addr)(ad:Adr):Sp:=fun vs H Q E=>∃ (x tp:Addr) (n:Nat) (ms:List (List Nat)) (p:List Nat) (a:Addr) (us:List (List Nat)),vs=[.ref x,T p,.ref a]∧jO C H x tp n ms∧iB ms n∧SqA K H a (us.map T)∧(us.length<=1000∧∀ y∈us,1<=y.length∧y.length<=1000)∧(¬ IsP ms p->∀ H',aM H H'->E (.ref ad.NoSuch) none H') ∧
 (IsP ms p->∀ (ts:List (List Nat)) (b:Bool) (H':Hp),lC ms p ts->aM H H'->(b=true↔us∈Dt.trs ts ts (bU ms))->Q (.bl b) H')
theorem zA {f:Addr}{fd:FuncData}(F:Fun K "is_tree" "is_tree" fM f fd)(tt:Txt K mg ad)(C_ways_toward:Cal P w K mg base (CX1 P w) "ways_toward" 3 ["web", "piece"] (kB ad.Web ad))(C_begin_of:Cal P w K mg base (CX1 P w) "begin_of" 1 ["word"] iO)(C_coming_to:Cal P w K mg base (CX1 P w) "coming_to" 2 ["words", "piece"] (zQ K)) :
  cO P w K mg base (CX1 P w) 4 f fd ["web", "piece", "tree"] (qF K ad.Web ad):=by
 refine F.okX kS (fun vs H Q E h=>?_) (fun cdv A outer s H vs Q E hr h=>?_)
 ·obtain ⟨x,tp,n,ms,p,a,us,rfl,_⟩:=h
  rfl
 ·obtain ⟨x,tp,n,ms,p,a,us,rfl,hW,hok,hS,⟨hul,hux⟩,xn,q⟩:=h
  have hs:sizeLine=16777216:=sizeLine_eq;have hu:=Nat.lt_of_succ_lt (fO hr);obtain ⟨⟨dx,hx⟩,htp⟩:=id hW;refine ⟨_,(aB (aJ (i:=3) kS.nd rfl (Or.inl rfl) (aP C_ways_toward hr jL (aA (pv 0) (aA (pv 1) aD))))
   (aB (bX (aO (pG hu) (eL uX rfl (oJ K rfl (pv 2)) (fun cl C s' H' fp=>(aP C_begin_of hr bL (aA (pv 0) aD)))) (dA (lH rfl) (by rfl) tt.b_list (by decide +kernel) (aA (pv 3) aD)) (aZ _)) (aF (bD kL)) aW)
   (aB (aJ (i:=4) kS.nd rfl (Or.inl rfl) (aN (Dj rfl) (by rfl) tt.b_all PyProof.Rows.boot_all (aA (eL vM rfl (oJ K rfl (pv 2)) (fun cl C s' H' fp=>(oS (zL K rfl) (pv 0) (Il K rfl (pv 1) rfl) (by with_unfolding_all rfl)))) aD)))
   (aF (bD (yJ (pv 4) (Es (oS eK (aN sQ (by rfl) tt.b_len PySem.boot_len (aA (aP C_coming_to hr bL (aA (pv 2) (aA (pv 1) aD))) aD)) (aL dE (aN sQ (by rfl) tt.b_len PySem.boot_len (aA (pv 3) aD)) aG) (aZ _))))))))),?_⟩
  (try rw [eF]);(try rw [cxK1])
  refine ⟨_,rfl,_,rfl,x,tp,n,ms,p,rfl,hW,hok,xn,fun hip D ps kvs H1 hD s1 hd1 hwa hps62 hpw hpn hpm=>?_⟩;have hts:=Az (p:=p) hpw hpn hpm;have htl:(ps.filter fun o=>decide (o≠p)).length<=62:=Nat.le_trans (List.length_filter_le ..) hps62;generalize (ps.filter fun o=>decide (o≠p))=ts at hwa hts htl;refine ⟨_,rfl,a,us.map T,_,rfl,hS.on s1,aM.refl _,fun J rd=>?_⟩;refine jA (fun v=>T (beg (unT v))) rd (by rw [List.length_map];omega) (fun v G hv sg N hN=>?_) fun D2 H2 hD2 s2 hd2=>?_
  ·obtain ⟨l,hl,rfl⟩:=List.mem_map.mp hv
   have z:=hN G (aM.refl _);rw [fJ] at z;exact ⟨_,rfl,l,rfl,hux l hl,z⟩
  rw [gW (f:=fun l=>T (beg l)),show us.map (fun l=>T (beg l))=(us.map beg).map T by rw [List.map_map];rfl] at hd2;refine ⟨_,rfl,D,ts,kvs,rfl,s2 D _ hd1,hwa.keys,fun D3 hD3=>?_⟩;have t3:=aI (o:=.lst (ts.map T)) hD3;refine ⟨D2,D3,us.map beg,ts,rfl,rfl,SqL.of (t3 D2 _ hd2),SqL.of aC,_,rfl,?_⟩;have s13:=s1.trans (s2.trans t3);by_cases hb:us.map beg=ts
  case neg =>
   refine itP (by rw [decide_eq_false hb];rfl) ?_;refine q hip ts false _ hts s13 ⟨fun z=>(by cases z),fun z=>absurd ((iU hts.nd).mp z).1 hb⟩
  refine itN (by rw [decide_eq_true hb];exact Bool.false_ne_true) ?_;have hd4:=t3 D _ (s2 D _ hd1);generalize upd H2 D3 (.lst (ts.map T))=H4 at s13 hd4;refine ⟨_,rfl,a,us.map T,_,rfl,hS.on s13,aM.refl _,fun J rd=>?_⟩;refine jA (fun v=>V.bl (decide (unT v∈ms))) rd (by rw [List.length_map];omega) (fun v G hv sg N hN=>?_) fun D5 H5 hD5 s5 hd5=>?_
  ·obtain ⟨l,hl,rfl⟩:=List.mem_map.mp hv
   have z:=hN G (aM.refl _);rw [fJ,<- qI] at z;have s1G:=s13.trans sg;exact ⟨_,rfl,_,rfl,x,ad.Web,dx,_,_,rfl,s1G x _ hx,tt.cl_Web,tt.na_Web_words,tV _ _,tp,_,rfl,.inr (SqT.of (s1G tp _ htp)),rfl,gM _,z⟩
  have hd5:H5 D5=some (.lst ((us.map fun w=>decide (w∈ms)).map V.bl)):=by
   rw [hd5,List.map_map,List.map_map];refine congrArg (fun l=>some (HO.lst l)) (List.map_congr_left fun m _=>?_);show V.bl (decide (unT (T m)∈ms))=_;rw [fJ];rfl
  have s15:=s13.trans s5;refine ⟨D5,_,rfl,SqL.of hd5,?_⟩;refine ⟨_,rfl,_,rfl,?_⟩;by_cases hkn:∀ w∈us,w∈ms
  case neg =>
   refine itN (fun z=>hkn fun w hw=>?_) ?_
   ·rw [List.all_map] at z
    exact of_decide_eq_true (List.all_eq_true.mp z w hw)
   ·exact q hip ts false _ hts s15 ⟨fun z=>(by cases z),fun z=>absurd ((iU hts.nd).mp z).2.1 hkn⟩
  refine itP (by rw [List.all_map];exact List.all_eq_true.mpr fun w hw=>decide_eq_true (hkn w hw)) ?_;refine ⟨_,rfl,_,rfl,a,us,p,rfl,hS.on s15,⟨hul,hux⟩,fun D6 fs H6 hD6 s6 hd6 hfn hpf hcl hle=>?_⟩;refine ⟨D6,_,rfl,hd6,?_⟩;refine ⟨_,rfl,D,_,rfl,s6 D _ (s5 D _ hd4),_,_,rfl,rfl,_,rfl,_,rfl,?_⟩;have hlen:=hwa.len;have hfin:∀ w∈us,Wd.fin w=p∨Wd.fin w∈ts:=fun w hw=>by
   by_cases e:Wd.fin w=p
   ·exact .inl e
   ·exact .inr ((hts.2 _).mpr ⟨⟨w,hkn w hw,.inr rfl⟩,e⟩)
  have key:=Dt.Ej (us:=us) (ks:=fs) hts.nd hts.no hb hfin hfn hpf hcl hle;rw [Ah,hlen];refine q hip ts _ _ hts (s15.trans s6) ?_;rw [iU hts.nd,decide_eq_true_iff];constructor
  ·intro h
   exact ⟨hb,hkn,key.mp (by omega)⟩
  ·intro h
   have:=key.mpr h.2.2
   omega
theorem aS.updN {H:Hp}{g:List Nat->List (List Nat)}{ls:List (List Nat)}{kvs:List (Key×V)}{b:Addr}{o:HO}(h:aS H g ls kvs):V.ref b∉kvs.map (·.2)->aS (upd H b o) g ls kvs:=by
 induction h with
 | nil=>intro _;exact .nil
 | @cons _ a _ _ e _ ih =>
  intro hn;have hab:a≠b:=fun z=>hn (z▸List.mem_cons_self ..)
  exact .cons (by rw [aH hab];exact e) (ih fun z=>hn (List.mem_cons_of_mem _ z))
theorem aS.fresh {H:Hp}{g:List Nat->List (List Nat)}{ls:List (List Nat)}{kvs:List (Key×V)}{b:Addr}(h:aS H g ls kvs)(hb:H b=none):V.ref b∉kvs.map (·.2):=by
 induction h with
 | nil=>intro z;cases z
 | @cons _ a _ _ e _ ih =>
  intro z;rcases List.mem_cons.mp z with z | z
  ·cases z;rw [hb] at e;cases e
  ·exact ih z
theorem mR {kvs:List (Key×V)}{k:Key}{e b:Addr}(h:V.ref b∉kvs.map (·.2))(he:b≠e):V.ref b∉(cJ kvs k (.ref e)).map (·.2):=fun z=>by
 unfold cJ at z;split at z
 ·rw [List.map_map] at z
  obtain ⟨kv,h1,h2⟩:=List.mem_map.mp z;have h2:(if kv.1=k then (kv.1,V.ref e) else kv).2=V.ref b:=h2;split at h2
  ·cases h2;exact he rfl
  ·exact h (h2▸List.mem_map_of_mem h1)
 ·rw [List.map_append] at z
  rcases List.mem_append.mp z with z | z
  ·exact h z
  ·have z:V.ref b=V.ref e:=List.mem_singleton.mp z
   cases z;exact he rfl
theorem Jx {ms:List (List Nat)}(hn:ms.Nodup)(hs:ms.Pairwise fun a b=>¬ b<a)(t:List Nat):(bU ms t).Pairwise (· < ·):=(Dt.Ht hn hs).filter _
theorem oQ {ts:List (List Nat)}{g:List Nat->List (List Nat)}:Dt.Fix ts ts g:=fun t h z=>absurd h z
def GOk (ms ts:List (List Nat))(g:List Nat->List (List Nat)):Prop:=∀ o∈ts,(g o).length<=64∧∀ y∈g o,y∈ms
theorem GOk.set {ms ts:List (List Nat)}{g:List Nat->List (List Nat)}{t w:List Nat}(h:GOk ms ts g)(hw:w∈ms):GOk ms ts (Dt.eD g t w):=fun o ho=>by
 by_cases e:o=t
 ·rw [e,Dt.iG]
  exact ⟨by show 1<=64;decide,fun y hy=>by rw [List.mem_singleton.mp hy];exact hw⟩
 ·rw [Dt.eG e]
  exact h o ho
theorem GOk.out {ms ts:List (List Nat)}(h:ms.length<=63):GOk ms ts (bU ms):=fun o _=>⟨Nat.le_trans (List.length_filter_le ..) (by omega),fun y hy=>(lU hy).1⟩
def pQ (C:Addr)(ad:Adr):Sp:=fun vs H Q E=>∃ (x tp:Addr) (n:Nat) (ms:List (List Nat)) (p:List Nat) (k:Int),vs=[.ref x,T p,.int k]∧jO C H x tp n ms∧iB ms n∧(¬ IsP ms p->∀ H',aM H H'->E (.ref ad.NoSuch) none H') ∧
 (IsP ms p->∀ ts:List (List Nat),lC ms p ts->(¬ (0<=k∧k<((Dt.nC ts (bU ms):Nat):Int))->∀ H',aM H H'->E (.ref ad.NoSuch) none H')∧(∀ (j:Nat) (us:List (List Nat)),k=(j:Int)->(Dt.trs ts ts (bU ms))[j]?=some us->∀ (D:Addr) (H':Hp),H D=none->aM H H'->H' D=some (.lst (us.map T))->Q (.ref D) H'))
theorem yS {f:Addr}{fd:FuncData}(F:Fun K "tree_by" "tree_by" gJ f fd)(tt:Txt K mg ad)(C_ways_toward:Cal P w K mg base (CX1 P w) "ways_toward" 3 ["web", "piece"] (kB ad.Web ad))(C_choices_counted:Cal P w K mg base (CX1 P w) "choices_counted" 4 ["ways"] (iJ K))(C_outs:Cal P w K mg base (CX1 P w) "outs" 2 ["web", "piece"] (qR ad.Web)) :
  cO P w K mg base (CX1 P w) 5 f fd ["web", "piece", "number"] (pQ ad.Web ad):=by
 refine F.okX eO (fun vs H Q E h=>?_) (fun cdv A outer s H vs Q E hr h=>?_)
 ·obtain ⟨x,tp,n,ms,p,k,rfl,_⟩:=h
  rfl
 ·obtain ⟨x,tp,n,ms,p,k,rfl,hW,hok,xn,q⟩:=h
  have hs:sizeLine=16777216:=sizeLine_eq;obtain ⟨hne,h64,⟨hn,hfew⟩,hxs,hnd⟩:=id hok;refine ⟨_,(aB (aJ (i:=3) eO.nd rfl (Or.inl rfl) (aP C_ways_toward hr jL (aA (pv 0) (aA (pv 1) aD))))
   (aB (bX (PW.pt (sX (aO qW (pv 2) aG (aZ _)) (mZ (aO Pk (pv 2) (aP C_choices_counted hr bL (aA (pv 3) aD)) (aZ _))))) (aF (eM (E:=fun cls H'=>E cls none H') tt.x_NoSuch rfl (fun _ _ _ _ _ _ _ I hx q=>gN I hx q) (aA (cH [116,104,101,114,101,32,105,115,32,110,111,32,116,114,101,101,32,111,102,32,116,104,105,115,32,110,117,109,98,101,114,32,116,111,119,97,114,100,32,116,104,101,32,112,105,101,99,101] (by decide +kernel)) aD))) aW)
   (aB (aJ (i:=4) eO.nd rfl (Or.inl rfl) (cU aD))
   (aB (aJ (i:=5) eO.nd rfl (Or.inl rfl) (pv 2))
   (aB (cM PassesOwn.leaving rfl (bW (dA (lH rfl) (by rfl) tt.b_list (by decide +kernel) (aA (pv 3) aD))) (bO (i:=6) eO.nd rfl (Or.inl rfl)) (aF (cM PassesOwn.leaving rfl (bW (aP C_outs hr bL (aA (pv 0) (aA (pv 6) aD)))) (bO (i:=7) eO.nd rfl (Or.inl rfl)) (aB (iZ (fO hr) (pv 3) (pv 6) (cU (aA (pv 7) aD)) rfl)
   (aB (aJ (i:=8) eO.nd rfl (Or.inl rfl) (aP C_choices_counted hr bL (aA (pv 3) aD)))
   (aB (bX (aO qW (pv 5) (pv 8) (aZ _)) (aB (eJ (lR PySem.F.plainAttrs_list PySem.F.slot_list_append PySem.F.type_list_append eU (pv 4) (aA (pv 7) aD)))
   (aF wO)) aW)
   (aF (aJ (i:=5) eO.nd rfl (Or.inl rfl) (aL gO (pv 5) (pv 8))))))))))
   (aF (bD (pv 4)))))))),?_⟩
  (try rw [eF]);(try rw [cxK1])
  refine ⟨_,rfl,_,rfl,x,tp,n,ms,p,rfl,hW,hok,xn,fun hip D ps kvs H1 hD s1 hd1 hwa hps62 hpw hpn hpm=>?_⟩;have hts:=Az (p:=p) hpw hpn hpm;have htl:(ps.filter fun o=>decide (o≠p)).length<=62:=Nat.le_trans (List.length_filter_le ..) hps62;generalize (ps.filter fun o=>decide (o≠p))=ts at hwa hts htl;obtain ⟨xk,q⟩:=q hip ts hts;have htn:=hts.nd;have hcc:∀ g,GOk ms ts g->(ts.length<=64∧∀ o∈ts,(g o).length<=200∧∀ y∈g o,1<=y.length∧y.length<=1000)∧rP (gC ts g) ts.length∧2*Dt.pL ((gC ts g).map (Dt.rs ts.length))<Dt.md 7:=fun g hg=>⟨⟨by omega,fun o ho=>⟨by have:=(hg o ho).1;omega,fun y hy=>by have:=(hxs y ((hg o ho).2 y hy)).1;omega⟩⟩,pV (by omega) fun o ho=>(hg o ho).1⟩
  have hg0:GOk ms ts (bU ms):=GOk.out (by omega);refine ⟨_,rfl,_,_,rfl,rfl,_,rfl,?_⟩;by_cases hk0:k<0
  ·refine itP (decide_eq_true hk0) ?_
   refine itP rfl ?_;exact ⟨(by show 1<=sizeLine;omega),xk (fun z=>by omega) H1 s1⟩
  refine itN (fun z=>hk0 (of_decide_eq_true z)) ?_;obtain ⟨c1,c2,c3⟩:=hcc _ hg0;refine ⟨_,rfl,_,rfl,D,ts,kvs,bU ms,rfl,hd1,hwa,c1,c2,c3,fun G1 s2=>?_⟩;rw [tW htn];refine ⟨_,_,rfl,rfl,_,rfl,?_⟩;by_cases hk1:k≥((Dt.nC ts (bU ms):Nat):Int)
  ·refine itP (decide_eq_true hk1) ?_
   exact ⟨(by show 1<=sizeLine;omega),xk (fun z=>by omega) G1 (s1.trans s2)⟩
  refine itN (fun z=>hk1 (of_decide_eq_true z)) ?_;obtain ⟨j,hj⟩:∃ j:Nat,k=(j:Int):=⟨k.toNat,by omega⟩;subst hj;have hjl:j<(Dt.trs ts ts (bU ms)).length:=by
   rw [Dt.lP htn (fun t h=>h) oQ];omega
  obtain ⟨us,hus⟩:∃ us,(Dt.trs ts ts (bU ms))[j]?=some us:=⟨_,List.getElem?_eq_getElem hjl⟩;refine ⟨(by show 0<=sizeLine;omega),fun Tr hTr=>?_⟩;have tT:=aI (o:=.lst []) hTr;have hDG:=s2 D _ hd1;have hTD:Tr≠D:=fun z=>by rw [z,hDG] at hTr;cases hTr
  have hTH:H Tr=none:=eS (s1.trans s2) hTr;refine ⟨_,rfl,?_⟩;refine ⟨_,rfl,D,ts,kvs,rfl,tT D _ hDG,hwa.keys,fun L hL=>?_⟩;have tL:=aI (o:=.lst (ts.map T)) hL;have hLD:L≠D:=fun z=>by rw [z,tT D _ hDG] at hL;cases hL
  have hLT:L≠Tr:=fun z=>by rw [z,aC] at hL;cases hL
  refine ⟨L,rfl,⟨_,SqL.of aC⟩,?_⟩;refine cT (K:=K) (a:=L) (xs:=ts.map T) (fun i σ G=>aM H G∧G L=some (.lst (ts.map T))∧∃ (g:List Nat->List (List Nat)) (kv:List (Key×V)) (j':Nat) (gs rs:List (List Nat)) (v6 v7 v8:Option V),G D=some (.dK kv)∧aS G g ts kv∧V.ref Tr∉kv.map (·.2)∧GOk ms ts g∧(∀ t∈ts.drop i,g t=bU ms t)∧Dt.Fix ts (ts.drop i) g∧G Tr=some (.lst (gs.map T))∧gs.length<=i∧(Dt.trs ts (ts.drop i) g)[j']?=some rs∧gs++rs=us∧σ=[some (.ref x),some (T p),some (.int (j:Nat)),some (.ref D),some (.ref Tr),some (.int (j':Nat)),v6,v7,v8])
   ⟨s1.trans (s2.trans (tT.trans tL)),aC,bU ms,kvs,j,[],us,none,none,none,tL D _ (tT D _ hDG),((hwa.mono s2).mono tT).mono tL,(hwa.mono s2).fresh hTr,hg0,fun t _=>rfl,by rw [List.drop_zero];exact oQ,by rw [aH hLT.symm];exact aC,Nat.le_refl _,by rw [List.drop_zero];exact hus,rfl,rfl⟩ (fun i σ G _ h=>SqL.of h.2.1) ?_ ?_
  ·rintro i y σ G hi ⟨sG,hLG,g,kv,j',gs,rs,v6,v7,v8,hdG,hwG,hnT,hgo,hgr,hfx,hTG,hgl,hrs,hgs,rfl⟩
   obtain ⟨t,hti,rfl⟩:∃ t,ts[i]?=some t∧T t=y:=by rw [List.getElem?_map] at hi;exact Option.map_eq_some_iff.mp hi
   obtain ⟨hil,hie⟩:=List.getElem?_eq_some_iff.mp hti;have hdr:ts.drop i=t::ts.drop (i+1):=by rw [List.drop_eq_getElem_cons hil,hie]
   have htm:=List.mem_of_getElem? hti;have hgt:g t=bU ms t:=hgr t (by rw [hdr];exact List.mem_cons_self ..);have hdn:(t::ts.drop (i+1)).Nodup:=by rw [<- hdr];exact htn.sublist (List.drop_sublist ..)
   have htr:t∉ts.drop (i+1):=(List.nodup_cons.mp hdn).1;rw [hdr] at hrs hfx;have hrs:((g t).flatMap fun w=>(Dt.trs ts (ts.drop (i+1)) (Dt.eD g t w)).map fun us=>w::us)[j']?=some rs:=hrs;rw [hgt] at hrs;refine ⟨_,rfl,_,rfl,x,tp,n,ms,t,rfl,hW.on sG,hok,fun Lo Go hLo so hdo=>?_⟩;refine ⟨Lo,rfl,⟨_,SqL.of hdo⟩,?_⟩;have hLoD:Lo≠D:=fun z=>by rw [z,hdG] at hLo;cases hLo
   have hLoT:Lo≠Tr:=fun z=>by rw [z,hTG] at hLo;cases hLo
   refine cT (K:=K) (a:=Lo) (xs:=(bU ms t).map T) (fun m σ G2=>aM H G2∧G2 L=some (.lst (ts.map T))∧G2 Lo=some (.lst ((bU ms t).map T))∧G2 Tr=some (.lst (gs.map T))∧∃ (g2:List Nat->List (List Nat)) (kv2:List (Key×V)) (j2:Nat) (v7 v8:Option V),G2 D=some (.dK kv2)∧aS G2 g2 ts kv2∧V.ref Tr∉kv2.map (·.2)∧(∀ o∈ts,o≠t->g2 o=g o)∧(((bU ms t).drop m).flatMap fun w=>(Dt.trs ts (ts.drop (i+1)) (Dt.eD g t w)).map fun us=>w::us)[j2]?=some rs∧σ=[some (.ref x),some (T p),some (.int (j:Nat)),some (.ref D),some (.ref Tr),some (.int (j2:Nat)),some (T t),v7,v8])
    ⟨sG.trans so,so L _ hLG,hdo,so Tr _ hTG,g,kv,j',v7,v8,so D _ hdG,hwG.mono so,hnT,fun o _ _=>rfl,by rw [List.drop_zero];exact hrs,rfl⟩ (fun m σ G2 _ h=>SqL.of h.2.2.1) ?_ ?_
   ·rintro m y σ G2 hm ⟨sG2,hL2,hLo2,hT2,g2,kv2,j2,v7,v8,hd2,hw2,hnT2,hg2,hj2,rfl⟩
    obtain ⟨wd,hwm,rfl⟩:∃ wd,(bU ms t)[m]?=some wd∧T wd=y:=by rw [List.getElem?_map] at hm;exact Option.map_eq_some_iff.mp hm
    obtain ⟨hml,hme⟩:=List.getElem?_eq_some_iff.mp hwm;have hwms:=(lU (List.mem_of_getElem? hwm)).1;rw [show (bU ms t).drop m=wd::(bU ms t).drop (m+1) by rw [List.drop_eq_getElem_cons hml,hme],Dt.zS,List.length_map,Dt.lP htn (fun o ho=>List.mem_of_mem_drop ho) hfx.set] at hj2;refine ⟨_,rfl,(by show 1<=sizeLine;omega),fun e he=>?_⟩;have te:=aI (o:=.lst [T wd]) he;have heD:e≠D:=fun z=>by rw [z,hd2] at he;cases he
    have heT:e≠Tr:=fun z=>by rw [z,hT2] at he;cases he
    have hH:∀ {b:Addr} {o:HO},H b=some o->b≠D:=fun {b o} e' z=>by rw [z,hD] at e';cases e'
    refine ⟨_,rfl,_,rfl,D,_,rfl,pW.k (k:=Sum.inr (tx t)) (te D _ hd2) (by rw [hw2.len];omega),?_⟩;have hw3:aS (upd (upd G2 e (.lst [T wd])) D (.dK (cJ kv2 (Sum.inr (tx t)) (.ref e)))) (Dt.eD g t wd) ts (cJ kv2 (Sum.inr (tx t)) (.ref e)):=by
     refine (((hw2.mono te).repl (a:=e) (new:=[wd]) htn htm (by exact aC)).updD (te D _ hd2)).cong fun o ho=>?_
     by_cases z:o=t
     ·rw [if_pos z,z,Dt.iG]
     ·rw [if_neg z,Dt.eG z]
      exact hg2 o ho z
    have sG3:aM H (upd (upd G2 e (.lst [T wd])) D (.dK (cJ kv2 (Sum.inr (tx t)) (.ref e)))):=fun b o e'=>by rw [aH (hH e')];exact te b o (sG2 b o e')
    have hL3:upd (upd G2 e (.lst [T wd])) D (.dK (cJ kv2 (Sum.inr (tx t)) (.ref e))) L=some (.lst (ts.map T)):=by rw [aH hLD];exact te L _ hL2
    have hLo3:upd (upd G2 e (.lst [T wd])) D (.dK (cJ kv2 (Sum.inr (tx t)) (.ref e))) Lo=some (.lst ((bU ms t).map T)):=by rw [aH hLoD];exact te Lo _ hLo2
    have hT3:upd (upd G2 e (.lst [T wd])) D (.dK (cJ kv2 (Sum.inr (tx t)) (.ref e))) Tr=some (.lst (gs.map T)):=by rw [aH hTD];exact te Tr _ hT2
    have hd3:upd (upd G2 e (.lst [T wd])) D (.dK (cJ kv2 (Sum.inr (tx t)) (.ref e))) D=some (.dK (cJ kv2 (Sum.inr (tx t)) (.ref e))):=aC;generalize upd (upd G2 e (.lst [T wd])) D (.dK (cJ kv2 (Sum.inr (tx t)) (.ref e)))=G3 at hw3 sG3 hL3 hLo3 hT3 hd3;have hgo3:=hgo.set (t:=t) hwms;obtain ⟨c1,c2,c3⟩:=hcc _ hgo3;refine ⟨_,rfl,D,ts,_,Dt.eD g t wd,rfl,hd3,hw3,c1,c2,c3,fun G4 s4=>?_⟩;rw [tW htn];refine ⟨_,rfl,_,rfl,_,_,rfl,rfl,_,rfl,?_⟩;by_cases hlt:j2<Dt.nC ts (Dt.eD g t wd)
    ·refine itP (decide_eq_true (by omega)) ?_
     rw [if_pos hlt,List.getElem?_map] at hj2;obtain ⟨rs',hrs',hrr⟩:=Option.map_eq_some_iff.mp hj2;have hT4:=s4 Tr _ hT3;refine ⟨_,rfl,.inl ⟨rfl,_,SqL.of hT4⟩,_,rfl,Tr,_,_,rfl,rfl,hT4,(by rw [List.length_map];omega),?_⟩;refine ⟨fun b o e'=>by rw [aH (aK e' hTH)];exact s4 b o (sG3 b o e'),by rw [aH hLT];exact s4 L _ hL3,Dt.eD g t wd,_,j2,gs++[wd],rs',_,_,_,by rw [aH hTD.symm];exact s4 D _ hd3,(hw3.mono s4).updN (mR hnT2 heT.symm),mR hnT2 heT.symm,hgo3,fun o ho=>?_,hfx.set,by rw [aC,List.map_append];rfl,by rw [List.length_append];show _+1<=_;omega,hrs',by rw [List.append_assoc];show gs++(wd::rs')=us;rw [hrr];exact hgs,rfl⟩;rw [Dt.eG (fun z:o=t=>htr (z▸ho))];exact hgr o (by rw [hdr];exact List.mem_cons_of_mem _ ho)
    ·refine itN (fun z=>hlt (by have:=of_decide_eq_true z;omega)) ?_
     rw [if_neg hlt] at hj2;refine ⟨_,rfl,_,rfl,_,_,rfl,rfl,?_⟩;refine ⟨sG3.trans s4,s4 L _ hL3,s4 Lo _ hLo3,s4 Tr _ hT3,Dt.eD g t wd,_,j2-Dt.nC ts (Dt.eD g t wd),some (T wd),some (.int ((Dt.nC ts (Dt.eD g t wd):Nat):Int)),s4 D _ hd3,hw3.mono s4,mR hnT2 heT.symm,fun o _ z=>Dt.eG z,hj2,?_⟩;rw [show ((j2-Dt.nC ts (Dt.eD g t wd):Nat):Int)=((j2:Nat):Int)-((Dt.nC ts (Dt.eD g t wd):Nat):Int) by omega];rfl
   ·rintro σ G2 ⟨sG2,hL2,hLo2,hT2,g2,kv2,j2,v7,v8,hd2,hw2,hnT2,hg2,hj2,rfl⟩
    rw [List.length_map,List.drop_length] at hj2;cases hj2
  ·rintro σ G ⟨sG,hLG,g,kv,j',gs,rs,v6,v7,v8,hdG,hwG,hnT,hgo,hgr,hfx,hTG,hgl,hrs,hgs,rfl⟩
   rw [List.length_map,List.drop_length] at hrs;have hr0:rs=[]:=by
    have hrs:(if Dt.cmT ts (fun t=>(g t).headD [])=true then [[]] else ([]:List (List (List Nat))))[j']?=some rs:=hrs;have hm:=List.mem_of_getElem? hrs;split at hm
    ·exact List.mem_singleton.mp hm
    ·cases hm
   rw [hr0,List.append_nil] at hgs;rw [hgs] at hTG;refine ⟨_,rfl,?_⟩;exact q j us rfl hus Tr G hTH sG hTG
def uF (K:PySem.W.Frag)(C:Addr)(ad:Adr):Sp:=fun vs H Q E=>∃ (x tp:Addr) (n:Nat) (ms:List (List Nat)) (p:List Nat) (a:Addr) (us:List (List Nat)),vs=[.ref x,T p,.ref a]∧jO C H x tp n ms∧iB ms n∧SqA K H a (us.map T)∧(us.length<=1000∧∀ y∈us,1<=y.length∧y.length<=1000)∧(¬ IsP ms p->∀ H',aM H H'->E (.ref ad.NoSuch) none H') ∧
 (IsP ms p->∀ ts:List (List Nat),lC ms p ts->(us∉Dt.trs ts ts (bU ms)->∀ H',aM H H'->E (.ref ad.NotOne) none H')∧(us∈Dt.trs ts ts (bU ms)->∀ H',aM H H'->Q (.int (Dt.rkT ts ts (bU ms) us:Nat)) H'))
theorem qJ {f:Addr}{fd:FuncData}(F:Fun K "tree_number" "tree_number" dZ f fd)(tt:Txt K mg ad)(C_ways_toward:Cal P w K mg base (CX1 P w) "ways_toward" 3 ["web", "piece"] (kB ad.Web ad))(C_is_tree:Cal P w K mg base (CX1 P w) "is_tree" 4 ["web", "piece", "tree"] (qF K ad.Web ad))(C_begin_of:Cal P w K mg base (CX1 P w) "begin_of" 1 ["word"] iO)(C_outs:Cal P w K mg base (CX1 P w) "outs" 2 ["web", "piece"] (qR ad.Web))(C_choices_counted:Cal P w K mg base (CX1 P w) "choices_counted" 4 ["ways"] (iJ K)) :
  cO P w K mg base (CX1 P w) 5 f fd ["web", "piece", "tree"] (uF K ad.Web ad):=by
 refine F.okX cV (fun vs H Q E h=>?_) (fun cdv A outer s H vs Q E hr h=>?_)
 ·obtain ⟨x,tp,n,ms,p,a,us,rfl,_⟩:=h
  rfl
 ·obtain ⟨x,tp,n,ms,p,a,us,rfl,hW,hok,hS,⟨hul,hux⟩,xn,q⟩:=h
  have hs:sizeLine=16777216:=sizeLine_eq;obtain ⟨hne,h64,⟨hn,hfew⟩,hxs,hnd⟩:=id hok;refine ⟨_,(aB (aJ (i:=3) cV.nd rfl (Or.inl rfl) (aP C_ways_toward hr jL (aA (pv 0) (aA (pv 1) aD))))
   (aB (bX (pH (rB (aP C_is_tree hr jL (aA (pv 0) (aA (pv 1) (aA (pv 2) aD)))))) (aF (eM (E:=fun cls H'=>E cls none H') tt.x_NotOne rfl (fun _ _ _ _ _ _ _ I hx q=>gN I hx q) (aA (cH [116,104,105,115,32,105,115,32,110,111,32,116,114,101,101,32,116,111,119,97,114,100,32,116,104,101,32,112,105,101,99,101] (by decide +kernel)) aD))) aW)
   (aB (aJ (i:=4) cV.nd rfl (Or.inl rfl) aG)
   (aB (cM PassesOwn.leaving rfl (oJ K rfl (pv 2)) (bO (i:=5) cV.nd rfl (Or.inl rfl)) (aB (aJ (i:=6) cV.nd rfl (Or.inl rfl) (aP C_begin_of hr bL (aA (pv 5) aD)))
   (aB (cM PassesOwn.leaving rfl (bW (aP C_outs hr bL (aA (pv 0) (aA (pv 6) aD)))) (bO (i:=7) cV.nd rfl (Or.inl rfl)) (aF (bX (aO Js (pv 7) (pv 5) (aZ _)) (aB (iZ (fO hr) (pv 3) (pv 6) (cU (aA (pv 7) aD)) rfl)
   (aF (aJ (i:=4) cV.nd rfl (Or.inl rfl) (aL dE (pv 4) (aP C_choices_counted hr bL (aA (pv 3) aD)))))) aW)))
   (aF (iZ (fO hr) (pv 3) (pv 6) (cU (aA (pv 5) aD)) rfl)))))
   (aF (bD (pv 4))))))),?_⟩
  (try rw [eF]);(try rw [cxK1])
  refine ⟨_,rfl,_,rfl,x,tp,n,ms,p,rfl,hW,hok,xn,fun hip D ps kvs H1 hD s1 hd1 hwa hps62 hpw hpn hpm=>?_⟩;have hts:=Az (p:=p) hpw hpn hpm;have htl:(ps.filter fun o=>decide (o≠p)).length<=62:=Nat.le_trans (List.length_filter_le ..) hps62;generalize (ps.filter fun o=>decide (o≠p))=ts at hwa hts htl;obtain ⟨xk,q⟩:=q hip ts hts;have htn:=hts.nd;have hcc:∀ g,GOk ms ts g->(ts.length<=64∧∀ o∈ts,(g o).length<=200∧∀ y∈g o,1<=y.length∧y.length<=1000)∧rP (gC ts g) ts.length∧2*Dt.pL ((gC ts g).map (Dt.rs ts.length))<Dt.md 7:=fun g hg=>⟨⟨by omega,fun o ho=>⟨by have:=(hg o ho).1;omega,fun y hy=>by have:=(hxs y ((hg o ho).2 y hy)).1;omega⟩⟩,pV (by omega) fun o ho=>(hg o ho).1⟩
  have hg0:GOk ms ts (bU ms):=GOk.out (by omega);refine ⟨_,rfl,_,rfl,_,rfl,x,tp,n,ms,p,a,us,rfl,hW.on s1,hok,hS.on s1,⟨hul,hux⟩,fun z=>absurd hip z,fun _ ts2 b H2 hts2 s2 hb=>?_⟩;obtain rfl:=hts.uniq hts2;refine ⟨_,rfl,?_⟩;by_cases hin:us∈Dt.trs ts2 ts2 (bU ms)
  case neg =>
   have hb0:b=false:=by
    cases b with
    | false=>rfl
    | true=>exact absurd (hb.mp rfl) hin
   subst hb0;refine wF ?_;exact ⟨(by show 1<=sizeLine;omega),xk hin H2 (s1.trans s2)⟩
  have hb1:=hb.mpr hin;subst hb1;refine vG ?_;obtain ⟨hmb,hmm,_⟩:=(iU htn).mp hin;have s12:=s1.trans s2;refine ⟨_,rfl,a,us.map T,_,rfl,hS,s12,fun J rd=>?_⟩;have hults:us.length=ts2.length:=by rw [<- hmb,List.length_map]
  have hlens:∀ o,(bU ms o).length<=64:=fun o=>Nat.le_trans (List.length_filter_le ..) (by omega)
  have hDH2:=s2 D _ hd1;refine sJ rd (fun i σ G=>aM H G∧∃ (g:List Nat->List (List Nat)) (kv:List (Key×V)) (acc:Nat) (v5 v6 v7:Option V),G D=some (.dK kv)∧aS G g ts2 kv∧GOk ms ts2 g∧(∀ t∈ts2.drop i,g t=bU ms t)∧acc+Dt.rkT ts2 (ts2.drop i) g (us.drop i)=Dt.rkT ts2 ts2 (bU ms) us∧σ=[some (.ref x),some (T p),some (.ref a),some (.ref D),some (.int (acc:Nat)),v5,v6,v7])
   ⟨s12,bU ms,kvs,0,none,none,none,hDH2,hwa.mono s2,hg0,fun t _=>rfl,by rw [List.drop_zero,List.drop_zero,Nat.zero_add],rfl⟩ (fun i σ G _ h=>h.1) ?_ ?_
  ·rintro i y σ G hi ⟨sG,g,kv,acc,v5,v6,v7,hdG,hwG,hgo,hgr,hacc,rfl⟩
   obtain ⟨wd,hwi,rfl⟩:∃ wd,us[i]?=some wd∧T wd=y:=by rw [List.getElem?_map] at hi;exact Option.map_eq_some_iff.mp hi
   obtain ⟨hil,hie⟩:=List.getElem?_eq_some_iff.mp hwi;have hwus:=List.mem_of_getElem? hwi;have hwms:=hmm wd hwus;have hti:ts2[i]?=some (Wd.beg wd):=by rw [<- hmb,List.getElem?_map,hwi];rfl
   obtain ⟨hil2,hie2⟩:=List.getElem?_eq_some_iff.mp hti;have htm:=List.mem_of_getElem? hti;have hdr:ts2.drop i=Wd.beg wd::ts2.drop (i+1):=by rw [List.drop_eq_getElem_cons hil2,hie2]
   have hdu:us.drop i=wd::us.drop (i+1):=by rw [List.drop_eq_getElem_cons hil,hie]
   have hdn:(Wd.beg wd::ts2.drop (i+1)).Nodup:=by rw [<- hdr];exact htn.sublist (List.drop_sublist ..)
   have htr:Wd.beg wd∉ts2.drop (i+1):=(List.nodup_cons.mp hdn).1;have hgt:g (Wd.beg wd)=bU ms (Wd.beg wd):=hgr _ (by rw [hdr];exact List.mem_cons_self ..);rw [hdr,hdu] at hacc;have hacc:acc+((((g (Wd.beg wd)).filter fun x=>decide (x<wd)).map fun x=>Dt.nC ts2 (Dt.eD g (Wd.beg wd) x)).sum+Dt.rkT ts2 (ts2.drop (i+1)) (Dt.eD g (Wd.beg wd) wd) (us.drop (i+1)))=Dt.rkT ts2 ts2 (bU ms) us:=hacc;rw [hgt] at hacc;refine ⟨_,rfl,wd,rfl,hux wd hwus,?_⟩;refine ⟨_,rfl,_,rfl,x,tp,n,ms,(Wd.beg wd),rfl,hW.on sG,hok,fun Lo Go hLo so hdo=>?_⟩;refine ⟨Lo,rfl,⟨_,SqL.of hdo⟩,?_⟩;have hLoD:Lo≠D:=fun z=>by rw [z,hdG] at hLo;cases hLo
   have hH:∀ {b:Addr} {o:HO},H b=some o->b≠D:=fun {b o} e' z=>by rw [z,hD] at e';cases e'
   have putw:∀ {G2:Hp} {g2:List Nat->List (List Nat)} {kv2:List (Key×V)} {e:Addr} {v:List Nat},G2 D=some (.dK kv2)->aS G2 g2 ts2 kv2->(∀ o∈ts2,o≠(Wd.beg wd)->g2 o=g o)->G2 e=none->aS (upd (upd G2 e (.lst [T v])) D (.dK (cJ kv2 (Sum.inr (tx (Wd.beg wd))) (.ref e)))) (Dt.eD g (Wd.beg wd) v) ts2 (cJ kv2 (Sum.inr (tx (Wd.beg wd))) (.ref e)):=fun {G2 g2 kv2 e v} hd2 hw2 hg2 he=>by
    have te:=aI (o:=.lst [T v]) he;refine (((hw2.mono te).repl (a:=e) (new:=[v]) htn htm (by exact aC)).updD (te D _ hd2)).cong fun o ho=>?_
    by_cases z:o=(Wd.beg wd)
    ·rw [if_pos z,z,Dt.iG]
    ·rw [if_neg z,Dt.eG z]
     exact hg2 o ho z
   refine cT (K:=K) (a:=Lo) (xs:=(bU ms (Wd.beg wd)).map T) (fun m σ G2=>aM H G2∧G2 Lo=some (.lst ((bU ms (Wd.beg wd)).map T))∧∃ (g2:List Nat->List (List Nat)) (kv2:List (Key×V)) (v7:Option V),G2 D=some (.dK kv2)∧aS G2 g2 ts2 kv2∧(∀ o∈ts2,o≠(Wd.beg wd)->g2 o=g o)∧σ=[some (.ref x),some (T p),some (.ref a),some (.ref D),some (.int ((acc+((((bU ms (Wd.beg wd)).take m).filter fun x=>decide (x<wd)).map fun x=>Dt.nC ts2 (Dt.eD g (Wd.beg wd) x)).sum:Nat):Int)),some (T wd),some (T (Wd.beg wd)),v7])
    ⟨sG.trans so,hdo,g,kv,v7,so D _ hdG,hwG.mono so,fun o _ _=>rfl,rfl⟩ (fun m σ G2 _ h=>SqL.of h.2.1) ?_ ?_
   ·rintro m y σ G2 hm ⟨sG2,hLo2,g2,kv2,v7,hd2,hw2,hg2,rfl⟩
    obtain ⟨v,hvm,rfl⟩:∃ v,(bU ms (Wd.beg wd))[m]?=some v∧T v=y:=by rw [List.getElem?_map] at hm;exact Option.map_eq_some_iff.mp hm
    have hvms:=(lU (List.mem_of_getElem? hvm)).1;have htk:(bU ms (Wd.beg wd)).take (m+1)=(bU ms (Wd.beg wd)).take m++[v]:=by rw [List.take_add_one,hvm];rfl
    refine ⟨_,rfl,_,rfl,_,rfl,_,rfl,_,rfl,?_⟩;by_cases hlt:v<wd
    ·refine itP (decide_eq_true hlt) ?_
     refine ⟨_,rfl,(by show 1<=sizeLine;omega),fun e he=>?_⟩;have te:=aI (o:=.lst [T v]) he;refine ⟨_,rfl,_,rfl,D,_,rfl,pW.k (k:=Sum.inr (tx (Wd.beg wd))) (te D _ hd2) (by rw [hw2.len];omega),?_⟩;have hw3:=putw (v:=v) hd2 hw2 hg2 he;have sG3:aM H (upd (upd G2 e (.lst [T v])) D (.dK (cJ kv2 (Sum.inr (tx (Wd.beg wd))) (.ref e)))):=fun b o e'=>by rw [aH (hH e')];exact te b o (sG2 b o e')
     have hLo3:upd (upd G2 e (.lst [T v])) D (.dK (cJ kv2 (Sum.inr (tx (Wd.beg wd))) (.ref e))) Lo=some (.lst ((bU ms (Wd.beg wd)).map T)):=by rw [aH hLoD];exact te Lo _ hLo2
     have hd3:upd (upd G2 e (.lst [T v])) D (.dK (cJ kv2 (Sum.inr (tx (Wd.beg wd))) (.ref e))) D=some (.dK (cJ kv2 (Sum.inr (tx (Wd.beg wd))) (.ref e))):=aC;generalize upd (upd G2 e (.lst [T v])) D (.dK (cJ kv2 (Sum.inr (tx (Wd.beg wd))) (.ref e)))=G3 at hw3 sG3 hLo3 hd3;obtain ⟨c1,c2,c3⟩:=hcc _ (hgo.set (t:=(Wd.beg wd)) hvms);refine ⟨_,rfl,_,rfl,D,ts2,_,Dt.eD g (Wd.beg wd) v,rfl,hd3,hw3,c1,c2,c3,fun G4 s4=>?_⟩;rw [tW htn];refine ⟨_,_,rfl,rfl,sG3.trans s4,s4 Lo _ hLo3,Dt.eD g (Wd.beg wd) v,_,some (T v),s4 D _ hd3,hw3.mono s4,fun o _ z=>Dt.eG z,?_⟩;rw [htk,List.filter_append,List.filter_cons_of_pos (p:=fun x=>decide (x<wd)) (decide_eq_true hlt),List.filter_nil,List.map_append,List.sum_append,<- Nat.add_assoc,Int.natCast_add];rfl
    ·refine itN (fun z=>hlt (of_decide_eq_true z)) ?_
     refine ⟨sG2,hLo2,g2,kv2,some (T v),hd2,hw2,hg2,?_⟩;rw [htk,List.filter_append,List.filter_cons_of_neg (p:=fun x=>decide (x<wd)) (fun z=>hlt (of_decide_eq_true z)),List.filter_nil,List.append_nil];rfl
   ·rintro σ G2 ⟨sG2,hLo2,g2,kv2,v7,hd2,hw2,hg2,rfl⟩
    rw [List.length_map,List.take_length];refine ⟨_,rfl,(by show 1<=sizeLine;omega),fun e he=>?_⟩;have te:=aI (o:=.lst [T wd]) he;refine ⟨_,rfl,_,rfl,D,_,rfl,pW.k (k:=Sum.inr (tx (Wd.beg wd))) (te D _ hd2) (by rw [hw2.len];omega),?_⟩;refine ⟨fun b o e'=>by rw [aH (hH e')];exact te b o (sG2 b o e'),Dt.eD g (Wd.beg wd) wd,_,acc+(((bU ms (Wd.beg wd)).filter fun x=>decide (x<wd)).map fun x=>Dt.nC ts2 (Dt.eD g (Wd.beg wd) x)).sum,_,_,_,aC,putw (v:=wd) hd2 hw2 hg2 he,hgo.set hwms,fun o ho=>?_,by rw [Nat.add_assoc];exact hacc,rfl⟩;rw [Dt.eG (fun z:o=(Wd.beg wd)=>htr (z▸ho))];exact hgr o (by rw [hdr];exact List.mem_cons_of_mem _ ho)
  ·rintro σ G ⟨sG,g,kv,acc,v5,v6,v7,hdG,hwG,hgo,hgr,hacc,rfl⟩
   rw [List.length_map,List.drop_length,hults,List.drop_length] at hacc;refine ⟨_,rfl,?_⟩;have hacc:acc+0=_:=hacc;rw [<- Nat.add_zero acc,hacc];exact q hin G sG
theorem Fq {ls:List (List Nat)}{f:List Nat->List Nat}{t:List Nat}:∀ k,itT ls f k t=Dt.iT ls f k t
 | 0=>rfl
 | k+1=>by show stT ls f (itT ls f k t)=Dt.sT ls f (Dt.iT ls f k t);rw [Fq k];rfl
theorem Dy {ls:List (List Nat)}{f:List Nat->List Nat}:nA ls f=Dt.cmT ls f:=by
 unfold nA Dt.cmT
 congr 1
 funext t
 rw [Fq]
theorem Mi {ls:List (List Nat)}{f:List Nat->List Nat}{t:List Nat}(h:t∉ls):cJ (cKs ls f) (Sum.inr (tx t)) (T (f t))=cKs (ls++[t]) f:=by
 rw [Ef _ (by rw [uG,if_neg h])];unfold cKs;rw [List.map_append];rfl
def yL (K:PySem.W.Frag):Sp:=fun vs H Q _=>∃ (b a:Addr) (ls us ts:List (List Nat)) (p:List Nat),vs=[.ref b,T p,.ref a]∧SqL K H b (ls.map T)∧H a=some (.lst (us.map T))∧(ls.length<=30∧∀ x∈ls,1<=x.length∧x.length<=1000)∧lC ls p ts∧us∈Dt.trs ts ts (bU ls)∧∀ H',aM H H'->Q (.bl true) H'
theorem nX {f:Addr}{fd:FuncData}(F:Fun K "_law_is_tree" "_law_is_tree" cX f fd)(tt:Txt K mg ad)(C__law_ways:Cal P w K mg base (CX1 P w) "_law_ways" 1 ["words", "piece"] (vJ K))(C__law_comes:Cal P w K mg base (CX1 P w) "_law_comes" 1 ["chosen"] uD) :
  cO P w K mg base (CX1 P w) 2 f fd ["words", "piece", "tree"] (yL K):=by
 refine F.okN fE (fun vs H Q E h=>?_) (fun cdv A outer s H vs Q E hr h=>?_)
 ·obtain ⟨b,a,ls,us,ts,p,rfl,_⟩:=h
  rfl
 ·obtain ⟨b,a,ls,us,ts,p,rfl,hS,hA,⟨hl,hx⟩,hts,hin,q⟩:=h
  have hs:sizeLine=16777216:=sizeLine_eq;have hu:=Nat.lt_of_succ_lt (fO hr);obtain ⟨hmb,hmm,hcm⟩:=(iU hts.nd).mp hin;have hul:us.length=ts.length:=by rw [<- hmb,List.length_map]
  have hux:∀ x∈us,1<=x.length∧x.length<=1000:=fun x hx'=>hx x (hmm x hx')
  refine ⟨_,(aB (aJ (i:=3) fE.nd rfl (Or.inl rfl) (aP C__law_ways hr bL (aA (pv 0) (aA (pv 1) aD))))
   (aB (bX (PW.pt (sX (pH (rB (aN jP (by rfl) tt.b_isinstance PyProof.Rows.boot_isinstance (aA (pv 2) (aA (vR (v:=.ty "list") (u:=.type "list") (by rfl) tt.b_list (by decide +kernel) rfl) aD))))) (mZ (aO (pG hu) (eL mB rfl (bW (pv 2)) (fun cl C s' H' fp=>(bC jS (pv 0) bR (bJ (jF gQ aG))))) (aN (rM rfl) (by rfl) tt.b_sorted PyProof.Rows.boot_sorted (aA (pv 3) aD)) (aZ _))))) (aF (bD kL)) aW)
   (aB (aJ (i:=4) fE.nd rfl (Or.inl rfl) lO)
   (aB (cM PassesOwn.never rfl (bW (pv 2)) (bO (i:=5) fE.nd rfl (Or.inl rfl)) (aB (bX (aO gH (pv 5) (pv 0) (by with_unfolding_all rfl)) (aF (bD kL)) aW)
   (aF (iZ (fO hr) (pv 4) (bC jS (pv 5) bR (bJ (jF gQ aG))) (pv 5) rfl))))
   (aF (bD (aP C__law_comes hr bL (aA (pv 4) aD)))))))),?_⟩
  (try rw [eF]);(try rw [cxK1])
  refine ⟨_,rfl,_,rfl,b,ls,p,rfl,hS,⟨by omega,hx⟩,fun D H1 hD s1 hWI=>?_⟩;obtain ⟨kvs,ts',g,hd,hwa,ndt,htl,htm,_⟩:=hWI;have hA1:=s1 a _ hA;refine ⟨_,rfl,_,_,_,_,rfl,.lst hA1,xW _,_,rfl,vG ?_⟩;refine ⟨_,rfl,a,rfl,⟨_,SqL.of hA1⟩,?_⟩;refine jA (fun v=>T (beg (unT v))) (cW (SqL.of hA1)) (by rw [List.length_map,hul];have:ts.length<=60:=hts.len60 hl;omega) (fun v H3 hv s3 N hN=>?_) fun D1 H3 hD1 s3 hd3=>?_
  ·obtain ⟨l,hl,rfl⟩:=List.mem_map.mp hv
   have hll:=hux l hl;have z:=hN H3 (aM.refl _);rw [fJ,<- (show gB l none (some (-(1:Int)))=beg l from iD hll.1)] at z;exact ⟨_,rfl,_,rfl,_,rfl,_,rfl,(by omega),z⟩
  rw [gW (f:=fun l=>T (beg l)),show us.map (fun l=>T (beg l))=(us.map beg).map T by rw [List.map_map];rfl,show us.map beg=ts from hmb] at hd3;have hlen:ts'.length<=2*ls.length+0:=htl;refine ⟨_,rfl,D,ts',kvs,rfl,s3 D _ hd,hwa.keys,(by omega),fun so E2 hE2 hp2 hw2=>?_⟩;have t2:=aI (o:=.lst (so.map T)) hE2;have hso:so=ts:=by
   refine Wd.nQ (hp2.trans ((List.perm_ext_iff_of_nodup ndt hts.nd).mpr fun z=>?_)) hw2 (hts.1.imp fun z e=>List.lt_irrefl _ (List.lt_trans z e));rw [htm,hts.2];exact ⟨fun h=>⟨h.2.resolve_right (by simp),h.1⟩,fun h=>⟨h.2,.inl h.1⟩⟩
  refine ⟨D1,E2,ts,so,rfl,rfl,SqL.of (t2 D1 _ hd3),SqL.of aC,_,rfl,?_⟩;refine itN (by rw [hso,decide_eq_true rfl];exact Bool.false_ne_true) ?_;have s14:=s1.trans (s3.trans t2);generalize upd H3 E2 (.lst (so.map T))=H4 at s14;refine fun C hC=>?_
  have sC:=aI (o:=.dK []) hC;have hCH:H C=none:=eS s14 hC;have hAC:a≠C:=aK hA hCH;refine ⟨_,rfl,a,rfl,⟨_,SqL.of (sC a _ (s14 a _ hA))⟩,?_⟩;have ht60:ts.length<=60:=hts.len60 hl;refine cT (K:=K) (a:=a) (xs:=us.map T) (fun i σ G=>aM H G∧G C=some (.dK (cKs (ts.take i) (Dt.pk us)))∧∃ v5:Option V,σ=[some (.ref b),some (T p),some (.ref a),some (.ref D),some (.ref C),v5]) ⟨s14.trans sC,aC,none,rfl⟩ (fun i σ G _ h=>SqL.of (h.1 a _ hA)) ?_ ?_
  ·rintro i y σ G hi ⟨sG,hCG,v5,rfl⟩
   obtain ⟨wd,hwi,rfl⟩:∃ wd,us[i]?=some wd∧T wd=y:=by rw [List.getElem?_map] at hi;exact Option.map_eq_some_iff.mp hi
   have hwus:=List.mem_of_getElem? hwi;have hwl:=hux wd hwus;have hti:ts[i]?=some (Wd.beg wd):=by rw [<- hmb,List.getElem?_map,hwi];rfl
   have htk:ts.take (i+1)=ts.take i++[Wd.beg wd]:=by rw [List.take_add_one,hti];rfl
   have hno:Wd.beg wd∉ts.take i:=fun z=>by
    have h1:(ts.take (i+1)).Nodup:=hts.nd.sublist (List.take_sublist ..);rw [htk,List.nodup_append] at h1;exact h1.2.2 _ z _ (List.mem_singleton.mpr rfl) rfl
   refine ⟨_,rfl,_,rfl,b,_,rfl,.inl (sG.seq hS),rfl,gM _,_,rfl,?_⟩;refine itN (by rw [qI,decide_eq_true (hmm wd hwus)];exact Bool.false_ne_true) ?_;refine ⟨_,rfl,_,rfl,_,rfl,_,rfl,_,rfl,_,rfl,(by omega),C,_,rfl,pW.k (k:=Sum.inr (tx (gB wd none (some (-(1:Int)))))) hCG (by rw [uN,List.length_take];omega),?_⟩;refine ⟨fun c o e=>by rw [aH (aK e hCH)];exact sG c o e,?_,some (T wd),rfl⟩;rw [aC,show gB wd none (some (-(1:Int)))=Wd.beg wd from iD hwl.1,htk,<- Mi hno,Dt.vO (by rw [hmb];exact hts.nd) wd hwus]
  ·rintro σ G ⟨sG,hCG,v5,rfl⟩
   rw [List.length_map,hul,List.take_length] at hCG;refine ⟨_,rfl,C,ts,Dt.pk us,rfl,hCG,⟨by omega,fun t ht=>?_⟩,?_⟩
   ·rw [<- hmb] at ht
    obtain ⟨w,hw,rfl⟩:=List.mem_map.mp ht;rw [Dt.vO (by rw [hmb];exact hts.nd) w hw];exact hux w hw
   ·rw [Dy,hcm]
    exact q G sG
theorem pB.perm {k:Nat}{ls ms:List (List Nat)}(h:pB k ls)(p:ms.Perm ls):pB k ms:=h.sub fun w hw=>p.mem_iff.mp hw
theorem iB.perm {ls ms:List (List Nat)}{n:Nat}(h:iB ls n)(p:ms.Perm ls):iB ms n:=⟨fun z=>h.1 (List.length_eq_zero_iff.mp (by rw [<- p.length_eq,z];rfl)),by rw [p.length_eq];exact h.2.1,⟨h.2.2.1.1,h.2.2.1.2.perm p⟩,fun x hx=>h.2.2.2.1 x (p.mem_iff.mp hx),p.nodup_iff.mpr h.2.2.2.2⟩
theorem IsP.perm {ls ms:List (List Nat)}(p:ms.Perm ls)(z:List Nat):IsP ms z↔IsP ls z:=⟨fun ⟨w,h1,h2⟩=>⟨w,p.mem_iff.mp h1,h2⟩,fun ⟨w,h1,h2⟩=>⟨w,p.mem_iff.mpr h1,h2⟩⟩
theorem Kx {ms ts:List (List Nat)}(hn:ts.Nodup)(hl:ms.length<=30):Dt.nC ts (bU ms)<=10 ^ 18:=by
 have h1:Dt.nC ts (bU ms)<=(Dt.chs (bU ms) ts).length:=List.length_filter_le ..;have h2:=Dt.oY (g:=bU ms) ts;have h3:(ts.map fun t=>(bU ms t).length).sum<=ms.length:=Dt.Mb hn;have h4:2 ^ (ts.map fun t=>(bU ms t).length).sum<=2 ^ 30:=Nat.pow_le_pow_right (by decide) (by omega);exact Nat.le_trans h1 (Nat.le_trans h2 (Nat.le_trans h4 (by decide)))
def Ad (K:PySem.W.Frag):Sp:=fun vs H Q _=>∃ (a:Addr) (ns:List Int),vs=[.ref a]∧SqL K H a (ns.map V.int)∧ns.length<=63∧∀ H',Q (.bl true) H'
theorem Lb {f:Addr}{fd:FuncData}(F:Fun K "law" "law" jI f fd)(tt:Txt K mg ad)(C__law_some_words:Cal P w K mg base (CX1 P w) "_law_some_words" 3 ["script", "at", "most"] (uS K))(C_Web_init:Cam P w K mg base (CX1 P w) "Web" ad.Web 5 ["self", "words"] (yF K ad.Web))(C__law_cell_at:Cal P w K mg base (CX1 P w) "_law_cell_at" 1 ["script", "k"] (qS K))(C_tree_count:Cal P w K mg base (CX1 P w) "tree_count" 5 ["web", "piece"] (yY ad.Web ad))(C__law_numbers:Cal P w K mg base (CX1 P w) "_law_numbers" 1 ["script", "many"] (yV K))(C_tree_by:Cal P w K mg base (CX1 P w) "tree_by" 5 ["web", "piece", "number"] (pQ ad.Web ad))(C__law_is_tree:Cal P w K mg base (CX1 P w) "_law_is_tree" 2 ["words", "piece", "tree"] (yL K))(C__law_whole:Cal P w K mg base (CX1 P w) "_law_whole" 1 ["found", "due"] uE)
  (C_tree_number:Cal P w K mg base (CX1 P w) "tree_number" 5 ["web", "piece", "tree"] (uF K ad.Web ad)) :
  cO P w K mg base (CX1 P w) 7 f fd ["script"] (Ad K):=by
 refine F.okN hU (fun vs H Q E h=>?_) (fun cdv A outer s H vs Q E hr h=>?_)
 ·obtain ⟨a,ns,rfl,_⟩:=h
  rfl
 ·obtain ⟨a,ns,rfl,hS,hlen,q⟩:=h
  have hs:sizeLine=16777216:=sizeLine_eq;have hu:=Nat.lt_of_succ_lt (fO hr);refine ⟨_,(aB (aJ (i:=1) hU.nd rfl (Or.inl rfl) (aP C__law_some_words hr bL (aA (pv 0) (aA aG (aA aG aD)))))
   (aB (aJ (i:=2) hU.nd rfl (Or.inl rfl) (Mf C_Web_init hr bL (aA (pv 1) aD)))
   (aB (aJ (i:=3) hU.nd rfl (Or.inl rfl) (aN (kN rfl) (by rfl) tt.b_sorted PyProof.Rows.boot_sorted (aA (dA (nB rfl) (by rfl) tt.b_set (by decide +kernel) (aA (aL jZ (eL Gg rfl (bW (pv 1)) (fun cl C s' H' fp=>(bC jS (pv 0) bR (bJ (jF gQ aG))))) (eL Gy rfl (bW (pv 1)) (fun cl C s' H' fp=>(bC jS (pv 0) (bJ aG) bR)))) aD)) aD)))
   (aB (aJ (i:=4) hU.nd rfl (Or.inl rfl) (fV dQ (pv 3) (aL cQ (aP C__law_cell_at hr bL (aA (pv 0) (aA aG aD))) (aN aY (by rfl) tt.b_len PySem.boot_len (aA (pv 3) aD))) (fun _ _=>rfl)))
   (aB (aJ (i:=5) hU.nd rfl (Or.inl rfl) (aP C_tree_count hr bL (aA (pv 2) (aA (pv 4) aD))))
   (aB (bX (aO eK (pv 5) aG (aZ _)) (aF (bD kL)) aW)
   (aB (aJ (i:=6) hU.nd rfl (Or.inl rfl) Gu)
   (aB (cM PassesOwn.never rfl (bW (aP C__law_numbers hr bL (aA (pv 0) (aA (pv 5) aD)))) (bO (i:=7) hU.nd rfl (Or.inl rfl)) (aB (aJ (i:=8) hU.nd rfl (Or.inl rfl) (aP C_tree_by hr bL (aA (pv 2) (aA (pv 4) (aA (pv 7) aD)))))
   (aB (bX (PW.pt (sX (pH (rB (aP C__law_is_tree hr bL (aA (pv 1) (aA (pv 4) (aA (pv 8) aD)))))) (mZ (pH (rB (aP C__law_whole hr bL (aA (aP C_tree_number hr bL (aA (pv 2) (aA (pv 4) (aA (pv 8) aD)))) (aA (pv 7) aD)))))))) (aF (bD kL)) aW)
   (aB (bX (PW.pt (sX (pH (rB (aP C__law_whole hr bL (aA (aP C_tree_number hr bL (aA (pv 2) (aA (pv 4) (aA (dA kJ (by rfl) tt.b_tuple (by decide +kernel) (aA (pv 8) aD)) aD)))) (aA (pv 7) aD))))) (mZ (PW.pt (qE (qB (Iy (pv 6))) (lL (aO (LT.Ho hu) (pv 6) (pv 8) (aZ _)))))))) (aF (bD kL)) aW)
   (aB (aJ (i:=6) hU.nd rfl (Or.inl rfl) (dA mC (by rfl) tt.b_list (by decide +kernel) (aA (pv 8) aD)))
   (aF (eJ (lR PySem.F.plainAttrs_list PySem.F.slot_list_append PySem.F.type_list_append eU (pv 8) (aA (cH [97] (by decide +kernel)) aD)))))))))
   (aF (bD (oS (Hf hu) (aP C_tree_by hr bL (aA (pv 2) (aA (pv 4) (aA (aL gO (pv 5) aG) aD)))) (pv 6) (aZ _)))))))))))),?_⟩
  (try rw [eF]);(try rw [cxK1])
  refine ⟨_,rfl,a,ns,rfl,hS,fun D ls n H1 s1 hd hwl hn hne hll=>?_⟩;have hok:iB ls n:=⟨hne,by omega,⟨⟨by omega,by omega⟩,pB.len (by omega)⟩,hwl.1,hwl.2⟩;refine ⟨_,rfl,?_⟩;intro x dx nx ndx nex;have s2:aM H1 (upd (upd H1 dx (.own x)) x (.ins ad.Web dx [])):=fun b o e=>by
   rw [aH (aK e nx),aH (aK e ndx)];exact e
  refine ⟨x,dx,D,ls,n,rfl,aC,SqL.of (s2 D _ hd),hok,fun tp ms H2 hp2 hw2 k2 hx2 ht2=>⟨rfl,?_⟩⟩;have s2:aM H1 H2:=fun b o e=>k2 b o (s2 b o e) (aK e nx)
  have hW:jO ad.Web H2 x tp n ms:=⟨⟨dx,hx2⟩,ht2⟩;have hokm:=hok.perm hp2;have hd2:=s2 D _ hd;have hmsn:=hokm.2.2.2.2;have hml:=hp2.length_eq;have hxl:∀ l∈ls,1<=l.length∧l.length<=1000:=fun l hl=>by have:=(hwl.1 l hl).1;omega
  have cb:∀ l∈ls,gB l none (some (-(1:Int)))=beg l:=fun l hl=>iD (hxl l hl).1
  have ce:∀ l∈ls,gB l (some 1) none=l.drop 1:=fun l hl=>iE (k:=1) (hxl l hl).1
  refine ⟨_,rfl,D,rfl,⟨_,SqL.of hd2⟩,?_⟩;refine jA (fun v=>T (beg (unT v))) (cW (SqL.of hd2)) (by rw [List.length_map];omega) (fun v H3 hv s3 N hN=>?_) fun D1 H3 hD1 s3 hd3=>?_
  ·obtain ⟨l,hl,rfl⟩:=List.mem_map.mp hv
   have hll:=hxl l hl;have z:=hN H3 (aM.refl _);rw [fJ,<- cb l hl] at z;exact ⟨_,rfl,_,rfl,_,rfl,_,rfl,(by omega),z⟩
  rw [gW (f:=fun l=>T (beg l)),show ls.map (fun l=>T (beg l))=(ls.map beg).map T by rw [List.map_map];rfl] at hd3;refine ⟨_,rfl,D,rfl,⟨_,SqL.of (s3 D _ hd2)⟩,?_⟩;refine jA (fun v=>T ((unT v).drop 1)) (cW (SqL.of (s3 D _ hd2))) (by rw [List.length_map];omega) (fun v H4 hv s4 N hN=>?_) fun D2 H4 hD2 s4 hd4=>?_
  ·obtain ⟨l,hl,rfl⟩:=List.mem_map.mp hv
   have hll:=hxl l hl;have z:=hN H4 (aM.refl _);rw [fJ,<- ce l hl] at z;exact ⟨_,rfl,_,rfl,_,rfl,(by omega),z⟩
  rw [gW (f:=fun l=>T (l.drop 1)),show ls.map (fun l=>T (l.drop 1))=(ls.map fun l=>l.drop 1).map T by rw [List.map_map];rfl] at hd4;refine ⟨D1,D2,_,_,rfl,rfl,SqL.of (s4 D1 _ hd3),SqL.of hd4,(by rw [List.length_map,List.length_map,List.length_map,List.length_map];omega),fun D3 hD3=>?_⟩;have s5:=aI (o:=.lst ((ls.map beg).map T++(ls.map fun l=>l.drop 1).map T)) hD3;refine ⟨D3,ls.map beg++ls.map (fun l=>l.drop 1),rfl,SqL.of (by rw [List.map_append];exact aC),(by rw [List.length_append,List.length_map,List.length_map];omega),fun S hSn=>?_⟩;have s6:=aI (o:=kG w S (uniq (ls.map beg++ls.map fun l=>l.drop 1))) hSn;have ul:=jU (ls.map beg++ls.map fun l=>l.drop 1) (ls.map beg++ls.map fun l=>l.drop 1).length;have ul':(uniq (ls.map beg++ls.map fun l=>l.drop 1)).length<64:=by
   refine Nat.lt_of_le_of_lt ul ?_;rw [List.length_append,List.length_map,List.length_map];omega
  refine ⟨S,_,rfl,aC,ul',fun ev D4 hD4 hp4 hw4=>?_⟩;have s7:=aI (o:=.lst (ev.map T)) hD4;have s27:=s3.trans (s4.trans (s5.trans (s6.trans s7)));have hevn:ev.Nodup:=hp4.nodup_iff.mpr (kQ _);have hevm:∀ z,z∈ev↔IsP ms z:=fun z=>by
   rw [hp4.mem_iff,gE,List.mem_append,List.mem_map,List.mem_map];constructor
   ·rintro (⟨l,hl,e⟩ | ⟨l,hl,e⟩)
    ·exact ⟨l,hp2.mem_iff.mpr hl,.inl e.symm⟩
    ·exact ⟨l,hp2.mem_iff.mpr hl,.inr e.symm⟩
   ·rintro ⟨l,hl,e | e⟩
    ·exact .inl ⟨l,hp2.mem_iff.mp hl,e.symm⟩
    ·exact .inr ⟨l,hp2.mem_iff.mp hl,e.symm⟩
  have hd7:upd (upd (upd H4 D3 (.lst ((ls.map beg).map T++(ls.map fun l=>l.drop 1).map T))) S (kG w S (uniq (ls.map beg++ls.map fun l=>l.drop 1)))) D4 (.lst (ev.map T)) D4=some (.lst (ev.map T)):=aC;have hev0:0<ev.length:=by
   obtain ⟨m1,hm1⟩:=List.exists_mem_of_ne_nil _ hokm.1;exact List.length_pos_of_mem ((hevm (beg m1)).mpr ⟨m1,hm1,.inl rfl⟩)
  obtain ⟨r,hr1,hr2⟩:∃ r:Nat,ns.getD 3 0 % ((ev.length:Nat):Int)=(r:Int)∧r<ev.length:=by
   have z0:=Int.emod_nonneg (ns.getD 3 0) (show ((ev.length:Nat):Int)≠0 by omega);have z1:=Int.emod_lt_of_pos (ns.getD 3 0) (show (0:Int)<((ev.length:Nat):Int) by omega);exact ⟨(ns.getD 3 0 % ((ev.length:Nat):Int)).toNat,by omega,by omega⟩
  obtain ⟨p,hpr⟩:∃ p,ev[r]?=some p:=⟨_,List.getElem?_eq_getElem hr2⟩;have hip:IsP ms p:=(hevm p).mp (List.mem_of_getElem? hpr);refine ⟨_,rfl,_,rfl,a,ns,3,rfl,(s1.trans (s2.trans s27)).seq hS,_,rfl,D4,_,rfl,.inl (SqL.of hd7),_,_,rfl,rfl,(by rw [List.length_map];omega),D4,_,_,_,rfl,rfl,SqL.of hd7,(by rw [List.length_map,hr1];exact dS (by rw [List.getElem?_map,hpr];rfl)),?_⟩;refine ⟨_,rfl,_,rfl,x,tp,n,ms,p,rfl,hW.on s27,hokm,fun z=>absurd hip z,fun _ ps H8 s8 _ hpw hpn hpm=>?_⟩;rw [tW (hpn.sublist List.filter_sublist)];have hts:=Az (p:=p) hpw hpn hpm;generalize (ps.filter fun o=>decide (o≠p))=ts at hts;have htn:=hts.nd;have s28:=s27.trans s8;refine ⟨_,rfl,_,rfl,_,rfl,_,rfl,?_⟩;by_cases hm0:Dt.nC ts (bU ms)=0
  ·refine itP (decide_eq_true (by omega)) ?_
   exact q _
  refine itN (fun z=>hm0 (by have:=of_decide_eq_true z;omega)) ?_;generalize hM:Dt.nC ts (bU ms)=M at hm0;have hMl:(Dt.trs ts ts (bU ms)).length=M:=by rw [<- hM];exact Dt.lP htn (fun t h=>h) oQ
  refine ⟨_,rfl,_,rfl,a,ns,M,rfl,(s1.trans (s2.trans s28)).seq hS,⟨by omega,by rw [<- hM];exact Kx htn (by omega)⟩,fun D5 qs H9 s9 hd9 hqp hqb hqm=>?_⟩;refine ⟨D5,rfl,⟨_,SqL.of hd9⟩,?_⟩;have hasc:∀ t∈ts,(bU ms t).Pairwise (· < ·):=fun t _=>Jx hmsn hw2 t
  have hevp:∀ i j us vs,i<j->(Dt.trs ts ts (bU ms))[i]?=some us->(Dt.trs ts ts (bU ms))[j]?=some vs->us<vs:=fun i j us vs hij h1 h2=>by
   have h3:=List.pairwise_iff_getElem.mp (Dt.yD (ts:=ts) htn hasc) i j (List.getElem?_eq_some_iff.mp h1).1 (List.getElem?_eq_some_iff.mp h2).1 hij;rw [(List.getElem?_eq_some_iff.mp h1).2,(List.getElem?_eq_some_iff.mp h2).2] at h3;exact h3
  refine cT (K:=K) (a:=D5) (xs:=qs.map V.int) (fun i σ G=>aM H2 G∧G D5=some (.lst (qs.map V.int))∧∃ (vb:V) (v7 v8:Option V),((i=0∧vb = .non)∨∃ (i' j:Nat) (Bf:Addr) (us:List (List Nat)),i=i'+1∧qs[i']?=some (j:Int)∧(Dt.trs ts ts (bU ms))[j]?=some us∧vb = .ref Bf∧G Bf=some (.lst (us.map T)))∧σ=[some (.ref a),some (.ref D),some (.ref x),some (.ref D4),some (T p),some (.int (M:Nat)),some vb,v7,v8]) ⟨s28.trans s9,hd9,.non,none,none,.inl ⟨rfl,rfl⟩,rfl⟩ (fun i σ G _ h=>SqL.of h.2.1) ?_ ?_
  ·rintro i y σ G hi ⟨sG,hdG,vb,v7,v8,hvb,rfl⟩
   obtain ⟨z,hzi,rfl⟩:∃ z,qs[i]?=some z∧V.int z=y:=by rw [List.getElem?_map] at hi;exact Option.map_eq_some_iff.mp hi
   have hzb:=hqb z (List.mem_of_getElem? hzi);obtain ⟨j,hj⟩:∃ j:Nat,z=(j:Int):=⟨z.toNat,by omega⟩;subst hj;have hjM:j<M:=by omega
   obtain ⟨us,hus⟩:∃ us,(Dt.trs ts ts (bU ms))[j]?=some us:=⟨_,List.getElem?_eq_getElem (by rw [hMl];exact hjM)⟩;have hin:=List.mem_of_getElem? hus;obtain ⟨hmb,hmm,hcm⟩:=(iU htn).mp hin;have hul:us.length<=60:=by rw [show us.length=ts.length by rw [<- hmb,List.length_map]];exact hts.len60 (by omega)
   have hux:∀ y∈us,1<=y.length∧y.length<=1000:=fun y hy=>hxl y (hp2.mem_iff.mp (hmm y hy))
   refine ⟨_,rfl,_,rfl,_,rfl,x,tp,n,ms,p,(j:Int),rfl,hW.on sG,hokm,fun z=>absurd hip z,fun _ ts2 hts2=>⟨fun z=>absurd ⟨by omega,by rw [<- hts2.uniq hts,hM];omega⟩ z,fun j2 us2 e2 hus2 D6 G1 hD6 s5 hd6=>?_⟩⟩;obtain rfl:=hts2.uniq hts;obtain rfl:j=j2:=by omega
   obtain rfl:us=us2:=by rw [hus] at hus2;exact Option.some.inj hus2
   have sG1:=sG.trans s5;have hD6H:H2 D6=none:=eS sG hD6;have hinl:us∈Dt.trs ts ts (bU ls):=(iU htn).mpr ⟨hmb,fun w hw=>hp2.mem_iff.mp (hmm w hw),hcm⟩;have htsl:lC ls p ts:=⟨hts.1,fun z=>by rw [hts.2,IsP.perm hp2]⟩;refine ⟨_,rfl,_,rfl,_,rfl,D,D6,ls,us,ts,p,rfl,SqL.of (sG1 D _ hd2),hd6,⟨by omega,hxl⟩,htsl,hinl,fun G2 s6=>?_⟩;refine ⟨_,rfl,vG ?_⟩;have sG2:=sG1.trans s6;have hrk:Dt.rkT ts ts (bU ms) us=j:=Dt.Gh htn hasc (Dt.Av htn (fun t h=>h) htn oQ hasc hin) hus;have hd6b:=s6 D6 _ hd6;refine ⟨_,rfl,_,rfl,_,rfl,x,tp,n,ms,p,D6,us,rfl,hW.on sG2,hokm,.inl (SqL.of hd6b),⟨by omega,hux⟩,fun z=>absurd hip z,fun _ ts3 hts3=>⟨fun z=>absurd (hts3.uniq hts▸hin) z,fun _ G3 s7=>?_⟩⟩;obtain rfl:=hts3.uniq hts;rw [hrk];refine ⟨_,rfl,_,rfl,_,rfl,vG ?_⟩;have sG3:=sG2.trans s7;have hd6c:=s7 D6 _ hd6b;refine ⟨_,rfl,_,rfl,_,rfl,D6,_,rfl,.inl ⟨SqL.of hd6c,fun t6 ht6=>?_⟩⟩;have tt6:=aI (o:=.tup (us.map T)) ht6;have sG4:=sG3.trans tt6;refine ⟨x,tp,n,ms,p,t6,us,rfl,hW.on sG4,hokm,.inr (SqT.of aC),⟨by omega,hux⟩,fun z=>absurd hip z,fun _ ts4 hts4=>⟨fun z=>absurd (hts4.uniq hts▸hin) z,fun _ G5 s10=>?_⟩⟩;obtain rfl:=hts4.uniq hts;rw [hrk];refine ⟨_,rfl,_,rfl,_,rfl,vG ?_⟩;have t36:=tt6.trans s10;have t16:=s6.trans (s7.trans t36);have sG5:=sG1.trans t16;have hd6d:=t16 D6 _ hd6;rcases hvb with ⟨hi0,rfl⟩ | ⟨i',j',Bf,us',hii,hq',hus',rfl,hBf⟩
   case' inl =>
    refine ⟨_,rfl,_,rfl,itN (by rw [decide_eq_true rfl];exact Bool.false_ne_true) ?_⟩;refine itN (fun z=>by cases z) ?_
   case' inr =>
    have hjj:j'<j:=by
     have h1:=List.pairwise_iff_getElem.mp hqp i' i (List.getElem?_eq_some_iff.mp hq').1 (List.getElem?_eq_some_iff.mp hzi).1 (by omega);rw [(List.getElem?_eq_some_iff.mp hzi).2,(List.getElem?_eq_some_iff.mp hq').2] at h1;omega
    refine ⟨_,rfl,_,rfl,itP (by rw [decide_eq_false (fun z=>by cases z)];rfl) ?_⟩;refine ⟨_,rfl,_,rfl,Bf,D6,us',us,rfl,rfl,SqL.of ((s5.trans t16) Bf _ hBf),SqL.of hd6d,hevp j' j us' us hjj hus' hus,_,rfl,?_⟩;refine itN (by exact Bool.false_ne_true) ?_
   all_goals
    refine ⟨_,rfl,D6,_,rfl,.inl (SqL.of hd6d),fun D7 hD7=>?_⟩;have t7:=aI (o:=.lst (us.map T)) hD7;have hd6e:=t7 D6 _ hd6d;have hD76:D7≠D6:=fun e=>by rw [e,hd6d] at hD7;cases hD7
    refine ⟨_,rfl,.inl ⟨rfl,_,SqL.of hd6e⟩,D6,_,_,rfl,rfl,hd6e,(by rw [List.length_map];omega),?_⟩;have hD56:D5≠D6:=fun e=>by rw [<- e,hdG] at hD6;cases hD6
    refine ⟨fun b o e=>by rw [aH (aK e hD6H)];exact t7 b o (sG5 b o e),by rw [aH hD56];exact t7 D5 _ (t16 D5 _ (s5 D5 _ hdG)),.ref D7,_,_,.inr ⟨i,j,D7,us,rfl,hzi,hus,rfl,by rw [aH hD76];exact aC⟩,rfl⟩
  ·rintro σ G ⟨sG,hdG,vb,v7,v8,hvb,rfl⟩
   rw [List.length_map] at hvb;obtain ⟨k,hk⟩:=List.getElem?_of_mem hqm;obtain ⟨hk1,hk2⟩:=List.getElem?_eq_some_iff.mp hk;rcases hvb with ⟨h0,_⟩ | ⟨i',j',Bf,us',hii,hq',hus',rfl,hBf⟩
   ·omega
   have hjm:(j':Int)=(M:Int)-1:=by
    obtain ⟨g1,g2⟩:=List.getElem?_eq_some_iff.mp hq';have hb:=hqb _ (List.mem_of_getElem? hq');by_cases e:k=i'
    ·subst e
     rw [<- g2,hk2]
    ·have h1:=List.pairwise_iff_getElem.mp hqp k i' hk1 g1 (by omega)
     rw [hk2,g2] at h1;omega
   refine ⟨_,rfl,_,rfl,_,rfl,_,_,rfl,rfl,x,tp,n,ms,p,(M:Int)-1,rfl,hW.on sG,hokm,fun z=>absurd hip z,fun _ ts2 hts2=>⟨fun z=>absurd ⟨by omega,by rw [<- hts2.uniq hts,hM];omega⟩ z,fun j2 us2 e2 hus2 D6 G1 hD6 s5 hd6=>?_⟩⟩;obtain rfl:=hts2.uniq hts;obtain rfl:j'=j2:=by omega
   obtain rfl:us'=us2:=by rw [hus'] at hus2;exact Option.some.inj hus2
   refine ⟨_,rfl,D6,Bf,us',us',rfl,rfl,SqL.of hd6,SqL.of (s5 Bf _ hBf),?_⟩;rw [decide_eq_true rfl];exact q _
end
theorem all_mk {l:PySem.W.OpenLaw}{w:World}{K:PySem.W.Frag}{h:Heap}{mg:Str->Option Value}{fa:Addr}(X:K.In h)(G:h.Ns mainGlobals mg)(hfa:mg "law" = some (.ref fa))
  {f_0:Addr} {od_0 an_0:Option Addr} {sl_0:Array (Option Value)} {oc_0 kV_0 dc_0 pm_0 cd_0 ct_0:Value}
  {f_1:Addr} {od_1 an_1:Option Addr} {sl_1:Array (Option Value)} {oc_1 kV_1 dc_1 pm_1 cd_1 ct_1:Value}
  {f_2:Addr} {od_2 an_2:Option Addr} {sl_2:Array (Option Value)} {oc_2 kV_2 dc_2 pm_2 cd_2 ct_2:Value}
  {f_3:Addr} {od_3 an_3:Option Addr} {sl_3:Array (Option Value)} {oc_3 kV_3 dc_3 pm_3 cd_3 ct_3:Value}
  {f_4:Addr} {od_4 an_4:Option Addr} {sl_4:Array (Option Value)} {oc_4 kV_4 dc_4 pm_4 cd_4 ct_4:Value}
  {f_5:Addr} {od_5 an_5:Option Addr} {sl_5:Array (Option Value)} {oc_5 kV_5 dc_5 pm_5 cd_5 ct_5:Value}
  {f_6:Addr} {od_6 an_6:Option Addr} {sl_6:Array (Option Value)} {oc_6 kV_6 dc_6 pm_6 cd_6 ct_6:Value}
  {f_7:Addr} {od_7 an_7:Option Addr} {sl_7:Array (Option Value)} {oc_7 kV_7 dc_7 pm_7 cd_7 ct_7:Value}
  {f_8:Addr} {od_8 an_8:Option Addr} {sl_8:Array (Option Value)} {oc_8 kV_8 dc_8 pm_8 cd_8 ct_8:Value}
  {f_9:Addr} {od_9 an_9:Option Addr} {sl_9:Array (Option Value)} {oc_9 kV_9 dc_9 pm_9 cd_9 ct_9:Value}
  {f_10:Addr} {od_10 an_10:Option Addr} {sl_10:Array (Option Value)} {oc_10 kV_10 dc_10 pm_10 cd_10 ct_10:Value}
  {f_11:Addr} {od_11 an_11:Option Addr} {sl_11:Array (Option Value)} {oc_11 kV_11 dc_11 pm_11 cd_11 ct_11:Value}
  {f_12:Addr} {od_12 an_12:Option Addr} {sl_12:Array (Option Value)} {oc_12 kV_12 dc_12 pm_12 cd_12 ct_12:Value}
  {f_13:Addr} {od_13 an_13:Option Addr} {sl_13:Array (Option Value)} {oc_13 kV_13 dc_13 pm_13 cd_13 ct_13:Value}
  {f_14:Addr} {od_14 an_14:Option Addr} {sl_14:Array (Option Value)} {oc_14 kV_14 dc_14 pm_14 cd_14 ct_14:Value}
  {f_15:Addr} {od_15 an_15:Option Addr} {sl_15:Array (Option Value)} {oc_15 kV_15 dc_15 pm_15 cd_15 ct_15:Value}
  {f_16:Addr} {od_16 an_16:Option Addr} {sl_16:Array (Option Value)} {oc_16 kV_16 dc_16 pm_16 cd_16 ct_16:Value}
  {f_17:Addr} {od_17 an_17:Option Addr} {sl_17:Array (Option Value)} {oc_17 kV_17 dc_17 pm_17 cd_17 ct_17:Value}
  {f_18:Addr} {od_18 an_18:Option Addr} {sl_18:Array (Option Value)} {oc_18 kV_18 dc_18 pm_18 cd_18 ct_18:Value}
  {f_19:Addr} {od_19 an_19:Option Addr} {sl_19:Array (Option Value)} {oc_19 kV_19 dc_19 pm_19 cd_19 ct_19:Value}
  {f_20:Addr} {od_20 an_20:Option Addr} {sl_20:Array (Option Value)} {oc_20 kV_20 dc_20 pm_20 cd_20 ct_20:Value}
  {f_21:Addr} {od_21 an_21:Option Addr} {sl_21:Array (Option Value)} {oc_21 kV_21 dc_21 pm_21 cd_21 ct_21:Value}
  {f_22:Addr} {od_22 an_22:Option Addr} {sl_22:Array (Option Value)} {oc_22 kV_22 dc_22 pm_22 cd_22 ct_22:Value}
  {f_23:Addr} {od_23 an_23:Option Addr} {sl_23:Array (Option Value)} {oc_23 kV_23 dc_23 pm_23 cd_23 ct_23:Value}
  {f_24:Addr} {od_24 an_24:Option Addr} {sl_24:Array (Option Value)} {oc_24 kV_24 dc_24 pm_24 cd_24 ct_24:Value}
  {f_25:Addr} {od_25 an_25:Option Addr} {sl_25:Array (Option Value)} {oc_25 kV_25 dc_25 pm_25 cd_25 ct_25:Value}
  {f_26:Addr} {od_26 an_26:Option Addr} {sl_26:Array (Option Value)} {oc_26 kV_26 dc_26 pm_26 cd_26 ct_26:Value}
  {f_27:Addr} {od_27 an_27:Option Addr} {sl_27:Array (Option Value)} {oc_27 kV_27 dc_27 pm_27 cd_27 ct_27:Value}
  {f_28:Addr} {od_28 an_28:Option Addr} {sl_28:Array (Option Value)} {oc_28 kV_28 dc_28 pm_28 cd_28 ct_28:Value}
  {f_29:Addr} {od_29 an_29:Option Addr} {sl_29:Array (Option Value)} {oc_29 kV_29 dc_29 pm_29 cd_29 ct_29:Value}
  {f_30:Addr} {od_30 an_30:Option Addr} {sl_30:Array (Option Value)} {oc_30 kV_30 dc_30 pm_30 cd_30 ct_30:Value}
  {f_31:Addr} {od_31 an_31:Option Addr} {sl_31:Array (Option Value)} {oc_31 kV_31 dc_31 pm_31 cd_31 ct_31:Value}
  {f_32:Addr} {od_32 an_32:Option Addr} {sl_32:Array (Option Value)} {oc_32 kV_32 dc_32 pm_32 cd_32 ct_32:Value}
  {f_33:Addr} {od_33 an_33:Option Addr} {sl_33:Array (Option Value)} {oc_33 kV_33 dc_33 pm_33 cd_33 ct_33:Value}
  {f_34:Addr} {od_34 an_34:Option Addr} {sl_34:Array (Option Value)} {oc_34 kV_34 dc_34 pm_34 cd_34 ct_34:Value}
  {f_35:Addr} {od_35 an_35:Option Addr} {sl_35:Array (Option Value)} {oc_35 kV_35 dc_35 pm_35 cd_35 ct_35:Value}
  {f_36:Addr} {od_36 an_36:Option Addr} {sl_36:Array (Option Value)} {oc_36 kV_36 dc_36 pm_36 cd_36 ct_36:Value}
  {c_BadKinds:Addr}
  {c_BadWord:Addr}
  {c_TooMany:Addr}
  {c_NoSuch:Addr}
  {c_NotOne:Addr}
  {c_Web:Addr}
  {c_KNOWN_TIMES:Addr}
  {u_FIRST_PRIME:Value}
  {u_STEP:Value}
  {u_LETTERS:Value}
  {u_LONGEST:Value}
  {u_MOST_OF_A_WEB:Value}
  {u_LONGEST_OF_A_WEB:Value}
  (a_0:PySem.W.nsIn K mainGlobals "further_times" = some (some (.ref f_0))) (l_0:K.lookup f_0=some ⟨oc_0,od_0,.func (PySem.W.fnOf "further_times" "further_times" (aV cZ) (aU cZ) (aE cZ) .none kV_0 dc_0 pm_0 an_0 cd_0 ct_0),sl_0⟩) (c_0:PySem.W.codeIn K cd_0 "further_times" = true) (k_0:PySem.W.keepIn K (.ref f_0)=true)
  (a_1:PySem.W.nsIn K mainGlobals "inverse" = some (some (.ref f_1))) (l_1:K.lookup f_1=some ⟨oc_1,od_1,.func (PySem.W.fnOf "inverse" "inverse" (aV gK) (aU gK) (aE gK) .none kV_1 dc_1 pm_1 an_1 cd_1 ct_1),sl_1⟩) (c_1:PySem.W.codeIn K cd_1 "inverse" = true) (k_1:PySem.W.keepIn K (.ref f_1)=true)
  (a_2:PySem.W.nsIn K mainGlobals "lowered" = some (some (.ref f_2))) (l_2:K.lookup f_2=some ⟨oc_2,od_2,.func (PySem.W.fnOf "lowered" "lowered" (aV fW) (aU fW) (aE fW) .none kV_2 dc_2 pm_2 an_2 cd_2 ct_2),sl_2⟩) (c_2:PySem.W.codeIn K cd_2 "lowered" = true) (k_2:PySem.W.keepIn K (.ref f_2)=true)
  (a_3:PySem.W.nsIn K mainGlobals "first_other_than_nought" = some (some (.ref f_3))) (l_3:K.lookup f_3=some ⟨oc_3,od_3,.func (PySem.W.fnOf "first_other_than_nought" "first_other_than_nought" (aV bI) (aU bI) (aE bI) .none kV_3 dc_3 pm_3 an_3 cd_3 ct_3),sl_3⟩) (c_3:PySem.W.codeIn K cd_3 "first_other_than_nought" = true) (k_3:PySem.W.keepIn K (.ref f_3)=true)
  (a_4:PySem.W.nsIn K mainGlobals "determinant_rest" = some (some (.ref f_4))) (l_4:K.lookup f_4=some ⟨oc_4,od_4,.func (PySem.W.fnOf "determinant_rest" "determinant_rest" (aV bK) (aU bK) (aE bK) .none kV_4 dc_4 pm_4 an_4 cd_4 ct_4),sl_4⟩) (c_4:PySem.W.codeIn K cd_4 "determinant_rest" = true) (k_4:PySem.W.keepIn K (.ref f_4)=true)
  (a_5:PySem.W.nsIn K mainGlobals "greatest_of" = some (some (.ref f_5))) (l_5:K.lookup f_5=some ⟨oc_5,od_5,.func (PySem.W.fnOf "greatest_of" "greatest_of" (aV dD) (aU dD) (aE dD) .none kV_5 dc_5 pm_5 an_5 cd_5 ct_5),sl_5⟩) (c_5:PySem.W.codeIn K cd_5 "greatest_of" = true) (k_5:PySem.W.keepIn K (.ref f_5)=true)
  (a_6:PySem.W.nsIn K mainGlobals "determinant" = some (some (.ref f_6))) (l_6:K.lookup f_6=some ⟨oc_6,od_6,.func (PySem.W.fnOf "determinant" "determinant" (aV eB) (aU eB) (aE eB) .none kV_6 dc_6 pm_6 an_6 cd_6 ct_6),sl_6⟩) (c_6:PySem.W.codeIn K cd_6 "determinant" = true) (k_6:PySem.W.keepIn K (.ref f_6)=true)
  (a_7:PySem.W.nsIn K mainGlobals "looked_kinds" = some (some (.ref f_7))) (l_7:K.lookup f_7=some ⟨oc_7,od_7,.func (PySem.W.fnOf "looked_kinds" "looked_kinds" (aV dI) (aU dI) (aE dI) .none kV_7 dc_7 pm_7 an_7 cd_7 ct_7),sl_7⟩) (c_7:PySem.W.codeIn K cd_7 "looked_kinds" = true) (k_7:PySem.W.keepIn K (.ref f_7)=true)
  (a_8:PySem.W.nsIn K mainGlobals "looked_length" = some (some (.ref f_8))) (l_8:K.lookup f_8=some ⟨oc_8,od_8,.func (PySem.W.fnOf "looked_length" "looked_length" (aV dB) (aU dB) (aE dB) .none kV_8 dc_8 pm_8 an_8 cd_8 ct_8),sl_8⟩) (c_8:PySem.W.codeIn K cd_8 "looked_length" = true) (k_8:PySem.W.keepIn K (.ref f_8)=true)
  (a_9:PySem.W.nsIn K mainGlobals "letters" = some (some (.ref f_9))) (l_9:K.lookup f_9=some ⟨oc_9,od_9,.func (PySem.W.fnOf "letters" "letters" (aV gL) (aU gL) (aE gL) .none kV_9 dc_9 pm_9 an_9 cd_9 ct_9),sl_9⟩) (c_9:PySem.W.codeIn K cd_9 "letters" = true) (k_9:PySem.W.keepIn K (.ref f_9)=true)
  (a_10:PySem.W.nsIn K mainGlobals "looked" = some (some (.ref f_10))) (l_10:K.lookup f_10=some ⟨oc_10,od_10,.func (PySem.W.fnOf "looked" "looked" (aV iH) (aU iH) (aE iH) .none kV_10 dc_10 pm_10 an_10 cd_10 ct_10),sl_10⟩) (c_10:PySem.W.codeIn K cd_10 "looked" = true) (k_10:PySem.W.keepIn K (.ref f_10)=true)
  (a_11:PySem.W.nsIn K mainGlobals "looked_web" = some (some (.ref f_11))) (l_11:K.lookup f_11=some ⟨oc_11,od_11,.func (PySem.W.fnOf "looked_web" "looked_web" (aV eZ) (aU eZ) (aE eZ) .none kV_11 dc_11 pm_11 an_11 cd_11 ct_11),sl_11⟩) (c_11:PySem.W.codeIn K cd_11 "looked_web" = true) (k_11:PySem.W.keepIn K (.ref f_11)=true)
  (a_12:PySem.W.findIn K (.ref c_Web) "__init__" = some (some (.ref f_12))) (l_12:K.lookup f_12=some ⟨oc_12,od_12,.func (PySem.W.fnOf "__init__" "Web.__init__" (aV fY) (aU fY) (aE fY) .none kV_12 dc_12 pm_12 an_12 cd_12 ct_12),sl_12⟩) (c_12:PySem.W.codeIn K cd_12 "Web.__init__" = true) (k_12:PySem.W.keepIn K (.ref f_12)=true) (i_Web_init:PySem.W.isFn K (.ref f_12)=true)
  (a_13:PySem.W.nsIn K mainGlobals "begin_of" = some (some (.ref f_13))) (l_13:K.lookup f_13=some ⟨oc_13,od_13,.func (PySem.W.fnOf "begin_of" "begin_of" (aV fX) (aU fX) (aE fX) .none kV_13 dc_13 pm_13 an_13 cd_13 ct_13),sl_13⟩) (c_13:PySem.W.codeIn K cd_13 "begin_of" = true) (k_13:PySem.W.keepIn K (.ref f_13)=true)
  (a_14:PySem.W.nsIn K mainGlobals "end_of" = some (some (.ref f_14))) (l_14:K.lookup f_14=some ⟨oc_14,od_14,.func (PySem.W.fnOf "end_of" "end_of" (aV iI) (aU iI) (aE iI) .none kV_14 dc_14 pm_14 an_14 cd_14 ct_14),sl_14⟩) (c_14:PySem.W.codeIn K cd_14 "end_of" = true) (k_14:PySem.W.keepIn K (.ref f_14)=true)
  (a_15:PySem.W.nsIn K mainGlobals "pieces" = some (some (.ref f_15))) (l_15:K.lookup f_15=some ⟨oc_15,od_15,.func (PySem.W.fnOf "pieces" "pieces" (aV gA) (aU gA) (aE gA) .none kV_15 dc_15 pm_15 an_15 cd_15 ct_15),sl_15⟩) (c_15:PySem.W.codeIn K cd_15 "pieces" = true) (k_15:PySem.W.keepIn K (.ref f_15)=true)
  (a_16:PySem.W.nsIn K mainGlobals "outs" = some (some (.ref f_16))) (l_16:K.lookup f_16=some ⟨oc_16,od_16,.func (PySem.W.fnOf "outs" "outs" (aV kW) (aU kW) (aE kW) .none kV_16 dc_16 pm_16 an_16 cd_16 ct_16),sl_16⟩) (c_16:PySem.W.codeIn K cd_16 "outs" = true) (k_16:PySem.W.keepIn K (.ref f_16)=true)
  (a_17:PySem.W.nsIn K mainGlobals "choice_row" = some (some (.ref f_17))) (l_17:K.lookup f_17=some ⟨oc_17,od_17,.func (PySem.W.fnOf "choice_row" "choice_row" (aV dC) (aU dC) (aE dC) .none kV_17 dc_17 pm_17 an_17 cd_17 ct_17),sl_17⟩) (c_17:PySem.W.codeIn K cd_17 "choice_row" = true) (k_17:PySem.W.keepIn K (.ref f_17)=true)
  (a_18:PySem.W.nsIn K mainGlobals "choices_counted" = some (some (.ref f_18))) (l_18:K.lookup f_18=some ⟨oc_18,od_18,.func (PySem.W.fnOf "choices_counted" "choices_counted" (aV cC) (aU cC) (aE cC) .none kV_18 dc_18 pm_18 an_18 cd_18 ct_18),sl_18⟩) (c_18:PySem.W.codeIn K cd_18 "choices_counted" = true) (k_18:PySem.W.keepIn K (.ref f_18)=true)
  (a_19:PySem.W.nsIn K mainGlobals "ways_toward" = some (some (.ref f_19))) (l_19:K.lookup f_19=some ⟨oc_19,od_19,.func (PySem.W.fnOf "ways_toward" "ways_toward" (aV eA) (aU eA) (aE eA) .none kV_19 dc_19 pm_19 an_19 cd_19 ct_19),sl_19⟩) (c_19:PySem.W.codeIn K cd_19 "ways_toward" = true) (k_19:PySem.W.keepIn K (.ref f_19)=true)
  (a_20:PySem.W.nsIn K mainGlobals "tree_count" = some (some (.ref f_20))) (l_20:K.lookup f_20=some ⟨oc_20,od_20,.func (PySem.W.fnOf "tree_count" "tree_count" (aV eV) (aU eV) (aE eV) .none kV_20 dc_20 pm_20 an_20 cd_20 ct_20),sl_20⟩) (c_20:PySem.W.codeIn K cd_20 "tree_count" = true) (k_20:PySem.W.keepIn K (.ref f_20)=true)
  (a_21:PySem.W.nsIn K mainGlobals "coming_to" = some (some (.ref f_21))) (l_21:K.lookup f_21=some ⟨oc_21,od_21,.func (PySem.W.fnOf "coming_to" "coming_to" (aV fH) (aU fH) (aE fH) .none kV_21 dc_21 pm_21 an_21 cd_21 ct_21),sl_21⟩) (c_21:PySem.W.codeIn K cd_21 "coming_to" = true) (k_21:PySem.W.keepIn K (.ref f_21)=true)
  (a_22:PySem.W.nsIn K mainGlobals "is_tree" = some (some (.ref f_22))) (l_22:K.lookup f_22=some ⟨oc_22,od_22,.func (PySem.W.fnOf "is_tree" "is_tree" (aV fM) (aU fM) (aE fM) .none kV_22 dc_22 pm_22 an_22 cd_22 ct_22),sl_22⟩) (c_22:PySem.W.codeIn K cd_22 "is_tree" = true) (k_22:PySem.W.keepIn K (.ref f_22)=true)
  (a_23:PySem.W.nsIn K mainGlobals "tree_by" = some (some (.ref f_23))) (l_23:K.lookup f_23=some ⟨oc_23,od_23,.func (PySem.W.fnOf "tree_by" "tree_by" (aV gJ) (aU gJ) (aE gJ) .none kV_23 dc_23 pm_23 an_23 cd_23 ct_23),sl_23⟩) (c_23:PySem.W.codeIn K cd_23 "tree_by" = true) (k_23:PySem.W.keepIn K (.ref f_23)=true)
  (a_24:PySem.W.nsIn K mainGlobals "tree_number" = some (some (.ref f_24))) (l_24:K.lookup f_24=some ⟨oc_24,od_24,.func (PySem.W.fnOf "tree_number" "tree_number" (aV dZ) (aU dZ) (aE dZ) .none kV_24 dc_24 pm_24 an_24 cd_24 ct_24),sl_24⟩) (c_24:PySem.W.codeIn K cd_24 "tree_number" = true) (k_24:PySem.W.keepIn K (.ref f_24)=true)
  (a_25:PySem.W.nsIn K mainGlobals "_law_cell_at" = some (some (.ref f_25))) (l_25:K.lookup f_25=some ⟨oc_25,od_25,.func (PySem.W.fnOf "_law_cell_at" "_law_cell_at" (aV dO) (aU dO) (aE dO) .none kV_25 dc_25 pm_25 an_25 cd_25 ct_25),sl_25⟩) (c_25:PySem.W.codeIn K cd_25 "_law_cell_at" = true) (k_25:PySem.W.keepIn K (.ref f_25)=true)
  (a_26:PySem.W.nsIn K mainGlobals "_law_whole" = some (some (.ref f_26))) (l_26:K.lookup f_26=some ⟨oc_26,od_26,.func (PySem.W.fnOf "_law_whole" "_law_whole" (aV fA) (aU fA) (aE fA) .none kV_26 dc_26 pm_26 an_26 cd_26 ct_26),sl_26⟩) (c_26:PySem.W.codeIn K cd_26 "_law_whole" = true) (k_26:PySem.W.keepIn K (.ref f_26)=true)
  (a_27:PySem.W.nsIn K mainGlobals "_law_walk" = some (some (.ref f_27))) (l_27:K.lookup f_27=some ⟨oc_27,od_27,.func (PySem.W.fnOf "_law_walk" "_law_walk" (aV eP) (aU eP) (aE eP) .none kV_27 dc_27 pm_27 an_27 cd_27 ct_27),sl_27⟩) (c_27:PySem.W.codeIn K cd_27 "_law_walk" = true) (k_27:PySem.W.keepIn K (.ref f_27)=true)
  (a_28:PySem.W.nsIn K mainGlobals "_law_ring_words" = some (some (.ref f_28))) (l_28:K.lookup f_28=some ⟨oc_28,od_28,.func (PySem.W.fnOf "_law_ring_words" "_law_ring_words" (aV cL) (aU cL) (aE cL) .none kV_28 dc_28 pm_28 an_28 cd_28 ct_28),sl_28⟩) (c_28:PySem.W.codeIn K cd_28 "_law_ring_words" = true) (k_28:PySem.W.keepIn K (.ref f_28)=true)
  (a_29:PySem.W.nsIn K mainGlobals "_law_every" = some (some (.ref f_29))) (l_29:K.lookup f_29=some ⟨oc_29,od_29,.func (PySem.W.fnOf "_law_every" "_law_every" (aV dU) (aU dU) (aE dU) .none kV_29 dc_29 pm_29 an_29 cd_29 ct_29),sl_29⟩) (c_29:PySem.W.codeIn K cd_29 "_law_every" = true) (k_29:PySem.W.keepIn K (.ref f_29)=true)
  (a_30:PySem.W.nsIn K mainGlobals "_law_digit_words" = some (some (.ref f_30))) (l_30:K.lookup f_30=some ⟨oc_30,od_30,.func (PySem.W.fnOf "_law_digit_words" "_law_digit_words" (aV cF) (aU cF) (aE cF) .none kV_30 dc_30 pm_30 an_30 cd_30 ct_30),sl_30⟩) (c_30:PySem.W.codeIn K cd_30 "_law_digit_words" = true) (k_30:PySem.W.keepIn K (.ref f_30)=true)
  (a_31:PySem.W.nsIn K mainGlobals "_law_some_words" = some (some (.ref f_31))) (l_31:K.lookup f_31=some ⟨oc_31,od_31,.func (PySem.W.fnOf "_law_some_words" "_law_some_words" (aV cK) (aU cK) (aE cK) .none kV_31 dc_31 pm_31 an_31 cd_31 ct_31),sl_31⟩) (c_31:PySem.W.codeIn K cd_31 "_law_some_words" = true) (k_31:PySem.W.keepIn K (.ref f_31)=true)
  (a_32:PySem.W.nsIn K mainGlobals "_law_ways" = some (some (.ref f_32))) (l_32:K.lookup f_32=some ⟨oc_32,od_32,.func (PySem.W.fnOf "_law_ways" "_law_ways" (aV fK) (aU fK) (aE fK) .none kV_32 dc_32 pm_32 an_32 cd_32 ct_32),sl_32⟩) (c_32:PySem.W.codeIn K cd_32 "_law_ways" = true) (k_32:PySem.W.keepIn K (.ref f_32)=true)
  (a_33:PySem.W.nsIn K mainGlobals "_law_comes" = some (some (.ref f_33))) (l_33:K.lookup f_33=some ⟨oc_33,od_33,.func (PySem.W.fnOf "_law_comes" "_law_comes" (aV eW) (aU eW) (aE eW) .none kV_33 dc_33 pm_33 an_33 cd_33 ct_33),sl_33⟩) (c_33:PySem.W.codeIn K cd_33 "_law_comes" = true) (k_33:PySem.W.keepIn K (.ref f_33)=true)
  (a_34:PySem.W.nsIn K mainGlobals "_law_is_tree" = some (some (.ref f_34))) (l_34:K.lookup f_34=some ⟨oc_34,od_34,.func (PySem.W.fnOf "_law_is_tree" "_law_is_tree" (aV cX) (aU cX) (aE cX) .none kV_34 dc_34 pm_34 an_34 cd_34 ct_34),sl_34⟩) (c_34:PySem.W.codeIn K cd_34 "_law_is_tree" = true) (k_34:PySem.W.keepIn K (.ref f_34)=true)
  (a_35:PySem.W.nsIn K mainGlobals "_law_numbers" = some (some (.ref f_35))) (l_35:K.lookup f_35=some ⟨oc_35,od_35,.func (PySem.W.fnOf "_law_numbers" "_law_numbers" (aV dJ) (aU dJ) (aE dJ) .none kV_35 dc_35 pm_35 an_35 cd_35 ct_35),sl_35⟩) (c_35:PySem.W.codeIn K cd_35 "_law_numbers" = true) (k_35:PySem.W.keepIn K (.ref f_35)=true)
  (a_36:PySem.W.nsIn K mainGlobals "law" = some (some (.ref f_36))) (l_36:K.lookup f_36=some ⟨oc_36,od_36,.func (PySem.W.fnOf "law" "law" (aV jI) (aU jI) (aE jI) .none kV_36 dc_36 pm_36 an_36 cd_36 ct_36),sl_36⟩) (c_36:PySem.W.codeIn K cd_36 "law" = true) (k_36:PySem.W.keepIn K (.ref f_36)=true)
  (z_abs:PySem.W.nsIn K mainGlobals "abs" = some none)
  (z_all:PySem.W.nsIn K mainGlobals "all" = some none)
  (z_bool:PySem.W.nsIn K mainGlobals "bool" = some none)
  (z_enumerate:PySem.W.nsIn K mainGlobals "enumerate" = some none)
  (z_int:PySem.W.nsIn K mainGlobals "int" = some none)
  (z_isinstance:PySem.W.nsIn K mainGlobals "isinstance" = some none)
  (z_len:PySem.W.nsIn K mainGlobals "len" = some none)
  (z_list:PySem.W.nsIn K mainGlobals "list" = some none)
  (z_range:PySem.W.nsIn K mainGlobals "range" = some none)
  (z_set:PySem.W.nsIn K mainGlobals "set" = some none)
  (z_sorted:PySem.W.nsIn K mainGlobals "sorted" = some none)
  (z_sum:PySem.W.nsIn K mainGlobals "sum" = some none)
  (z_tuple:PySem.W.nsIn K mainGlobals "tuple" = some none)
  (z_zip:PySem.W.nsIn K mainGlobals "zip" = some none)
  (y_BadKinds:PySem.W.nsIn K mainGlobals "BadKinds" = some (some (.ref c_BadKinds)))
  (y_BadWord:PySem.W.nsIn K mainGlobals "BadWord" = some (some (.ref c_BadWord)))
  (y_TooMany:PySem.W.nsIn K mainGlobals "TooMany" = some (some (.ref c_TooMany)))
  (y_NoSuch:PySem.W.nsIn K mainGlobals "NoSuch" = some (some (.ref c_NoSuch)))
  (y_NotOne:PySem.W.nsIn K mainGlobals "NotOne" = some (some (.ref c_NotOne)))
  (y_Web:PySem.W.nsIn K mainGlobals "Web" = some (some (.ref c_Web)))
  (y_KNOWN_TIMES:PySem.W.nsIn K mainGlobals "KNOWN_TIMES" = some (some (.ref c_KNOWN_TIMES)))
  (e_BadKinds:PySem.W.excIn K c_BadKinds yP "ValueError.__new__" = true)
  (e_BadWord:PySem.W.excIn K c_BadWord yP "ValueError.__new__" = true)
  (e_TooMany:PySem.W.excIn K c_TooMany yP "ValueError.__new__" = true)
  (e_NoSuch:PySem.W.excIn K c_NoSuch yP "ValueError.__new__" = true)
  (e_NotOne:PySem.W.excIn K c_NotOne yP "ValueError.__new__" = true)
  (g_FIRST_PRIME:PySem.W.nsIn K mainGlobals "FIRST_PRIME" = some (some u_FIRST_PRIME)) (r_FIRST_PRIME:bE (.int 2305843009213693951) u_FIRST_PRIME)
  (g_STEP:PySem.W.nsIn K mainGlobals "STEP" = some (some u_STEP)) (r_STEP:bE (.int 6277101735386680763835789423207666416102355444464034512896) u_STEP)
  (g_LETTERS:PySem.W.nsIn K mainGlobals "LETTERS" = some (some u_LETTERS)) (r_LETTERS:bE (T [97,98,99,100,101,102]) u_LETTERS)
  (g_LONGEST:PySem.W.nsIn K mainGlobals "LONGEST" = some (some u_LONGEST)) (r_LONGEST:bE (.int 24) u_LONGEST)
  (g_MOST_OF_A_WEB:PySem.W.nsIn K mainGlobals "MOST_OF_A_WEB" = some (some u_MOST_OF_A_WEB)) (r_MOST_OF_A_WEB:bE (.int 64) u_MOST_OF_A_WEB)
  (g_LONGEST_OF_A_WEB:PySem.W.nsIn K mainGlobals "LONGEST_OF_A_WEB" = some (some u_LONGEST_OF_A_WEB)) (r_LONGEST_OF_A_WEB:bE (.int 8) u_LONGEST_OF_A_WEB)
  (kt:tupIs K c_KNOWN_TIMES [133,211,598,652,721,850,1282,1417,1582,1681,1726,1837,1885,2017,2377,2383,2452,2476,2530,2611,2662,2698,2773,2878,2917,2980,2998,3082,3238,3250,3343,3421,3427,3670,3817,4162,4252,4447,4468,4621,4630,4747,4867,4891,4915,5128,5143,5236,5401,5587,5650,5803,5833,5923,5986,6202,6235,6286,6496,6526,6736,7093,7561,7696,7831,7855,7882,7927,8143,8248]=true)
  (pg_Web:PySem.W.plainGet K c_Web Str.empty=true) (hd_Web:PySem.W.hasDictIn K c_Web=true) (po_Web:PySem.W.plainOver K c_Web=true) (sa_Web:PySem.W.findIn K (.ref c_Web) "__setattr__" = some (some (.builtin "object.__setattr__"))) (mk_Web:PySem.W.makesIn K c_Web=true) (kc_Web:PySem.W.keepIn K (.ref c_Web)=true)
  (na_Web_words:PySem.W.findIn K (.ref c_Web) "words" = some none)
  (na_Web_length:PySem.W.findIn K (.ref c_Web) "length" = some none) :
  ∃ fd:FuncData,(∀ (s:Shared) (v:Value),BindsTo s fd ⟨[v],[]⟩ [("script",v)])∧∀ base:Heap,K.In base->base.Ns mainGlobals mg->cO l.prog w K mg base (CX1 l.prog w) 7 fa fd ["script"] (Ad K):=by
 have e:=hfa.symm.trans (PySem.W.mg_of X G a_36);cases e;have tt:Txt K mg ⟨c_BadKinds,c_BadWord,c_TooMany,c_NoSuch,c_NotOne,c_Web,c_KNOWN_TIMES,u_FIRST_PRIME,u_STEP,u_LETTERS,u_LONGEST,u_MOST_OF_A_WEB,u_LONGEST_OF_A_WEB⟩:=⟨PySem.W.mg_none_of X G z_abs,PySem.W.mg_none_of X G z_all,PySem.W.mg_none_of X G z_bool,PySem.W.mg_none_of X G z_enumerate,PySem.W.mg_none_of X G z_int,PySem.W.mg_none_of X G z_isinstance,PySem.W.mg_none_of X G z_len,PySem.W.mg_none_of X G z_list,PySem.W.mg_none_of X G z_range,PySem.W.mg_none_of X G z_set,PySem.W.mg_none_of X G z_sorted,PySem.W.mg_none_of X G z_sum,PySem.W.mg_none_of X G z_tuple,PySem.W.mg_none_of X G z_zip,PySem.W.mg_of X G y_BadKinds,PySem.W.mg_of X G y_BadWord,PySem.W.mg_of X G y_TooMany,PySem.W.mg_of X G y_NoSuch,PySem.W.mg_of X G y_NotOne,PySem.W.mg_of X G y_Web,PySem.W.mg_of X G y_KNOWN_TIMES,⟨PySem.W.mg_of X G y_BadKinds,e_BadKinds⟩,⟨PySem.W.mg_of X G y_BadWord,e_BadWord⟩,⟨PySem.W.mg_of X G y_TooMany,e_TooMany⟩,⟨PySem.W.mg_of X G y_NoSuch,e_NoSuch⟩,⟨PySem.W.mg_of X G y_NotOne,e_NotOne⟩,PySem.W.mg_of X G g_FIRST_PRIME,r_FIRST_PRIME,PySem.W.mg_of X G g_STEP,r_STEP,PySem.W.mg_of X G g_LETTERS,r_LETTERS,PySem.W.mg_of X G g_LONGEST,r_LONGEST,PySem.W.mg_of X G g_MOST_OF_A_WEB,r_MOST_OF_A_WEB,PySem.W.mg_of X G g_LONGEST_OF_A_WEB,r_LONGEST_OF_A_WEB,kt,⟨pg_Web,hd_Web,po_Web,sa_Web⟩,na_Web_words,na_Web_length⟩;have F_0:=bQ (st:=cZ) l_0 c_0 k_0;have b_0:=F_0.binds (ps:=["place", "last"]) fun _ _ _ _ _ _ us hl=>L2.on2 (C:=fun us=>bindArgs _ ⟨us,[]⟩=pure (List.zip _ us)) hl fun _ _=>rfl
 have F_1:=bQ (st:=gK) l_1 c_1 k_1;have b_1:=F_1.binds (ps:=["number", "prime"]) fun _ _ _ _ _ _ us hl=>L2.on2 (C:=fun us=>bindArgs _ ⟨us,[]⟩=pure (List.zip _ us)) hl fun _ _=>rfl
 have F_2:=bQ (st:=fW) l_2 c_2 k_2;have b_2:=F_2.binds (ps:=["row", "top", "back", "prime"]) fun _ _ _ _ _ _ us hl=>L2.on4 (C:=fun us=>bindArgs _ ⟨us,[]⟩=pure (List.zip _ us)) hl fun _ _ _ _=>rfl
 have F_3:=bQ (st:=bI) l_3 c_3 k_3;have b_3:=F_3.binds (ps:=["numbers"]) fun _ _ _ _ _ _ us hl=>L2.on1 (C:=fun us=>bindArgs _ ⟨us,[]⟩=pure (List.zip _ us)) hl fun _=>rfl
 have F_4:=bQ (st:=bK) l_4 c_4 k_4;have b_4:=F_4.binds (ps:=["square", "prime"]) fun _ _ _ _ _ _ us hl=>L2.on2 (C:=fun us=>bindArgs _ ⟨us,[]⟩=pure (List.zip _ us)) hl fun _ _=>rfl
 have F_5:=bQ (st:=dD) l_5 c_5 k_5;have b_5:=F_5.binds (ps:=["square"]) fun _ _ _ _ _ _ us hl=>L2.on1 (C:=fun us=>bindArgs _ ⟨us,[]⟩=pure (List.zip _ us)) hl fun _=>rfl
 have F_6:=bQ (st:=eB) l_6 c_6 k_6;have b_6:=F_6.binds (ps:=["square"]) fun _ _ _ _ _ _ us hl=>L2.on1 (C:=fun us=>bindArgs _ ⟨us,[]⟩=pure (List.zip _ us)) hl fun _=>rfl
 have F_7:=bQ (st:=dI) l_7 c_7 k_7;have b_7:=F_7.binds (ps:=["kinds"]) fun _ _ _ _ _ _ us hl=>L2.on1 (C:=fun us=>bindArgs _ ⟨us,[]⟩=pure (List.zip _ us)) hl fun _=>rfl
 have F_8:=bQ (st:=dB) l_8 c_8 k_8;have b_8:=F_8.binds (ps:=["length", "kinds"]) fun _ _ _ _ _ _ us hl=>L2.on2 (C:=fun us=>bindArgs _ ⟨us,[]⟩=pure (List.zip _ us)) hl fun _ _=>rfl
 have F_9:=bQ (st:=gL) l_9 c_9 k_9;have b_9:=F_9.binds (ps:=["kinds"]) fun _ _ _ _ _ _ us hl=>L2.on1 (C:=fun us=>bindArgs _ ⟨us,[]⟩=pure (List.zip _ us)) hl fun _=>rfl
 have F_10:=bQ (st:=iH) l_10 c_10 k_10;have b_10:=F_10.binds (ps:=["word", "kinds"]) fun _ _ _ _ _ _ us hl=>L2.on2 (C:=fun us=>bindArgs _ ⟨us,[]⟩=pure (List.zip _ us)) hl fun _ _=>rfl
 have F_11:=bQ (st:=eZ) l_11 c_11 k_11;have b_11:=F_11.binds (ps:=["words"]) fun _ _ _ _ _ _ us hl=>L2.on1 (C:=fun us=>bindArgs _ ⟨us,[]⟩=pure (List.zip _ us)) hl fun _=>rfl
 have F_12:=bQ (st:=fY) l_12 c_12 k_12;have b_12:=F_12.binds (ps:=["self", "words"]) fun _ _ _ _ _ _ us hl=>L2.on2 (C:=fun us=>bindArgs _ ⟨us,[]⟩=pure (List.zip _ us)) hl fun _ _=>rfl
 have F_13:=bQ (st:=fX) l_13 c_13 k_13;have b_13:=F_13.binds (ps:=["word"]) fun _ _ _ _ _ _ us hl=>L2.on1 (C:=fun us=>bindArgs _ ⟨us,[]⟩=pure (List.zip _ us)) hl fun _=>rfl
 have F_14:=bQ (st:=iI) l_14 c_14 k_14;have b_14:=F_14.binds (ps:=["word"]) fun _ _ _ _ _ _ us hl=>L2.on1 (C:=fun us=>bindArgs _ ⟨us,[]⟩=pure (List.zip _ us)) hl fun _=>rfl
 have F_15:=bQ (st:=gA) l_15 c_15 k_15;have b_15:=F_15.binds (ps:=["web"]) fun _ _ _ _ _ _ us hl=>L2.on1 (C:=fun us=>bindArgs _ ⟨us,[]⟩=pure (List.zip _ us)) hl fun _=>rfl
 have F_16:=bQ (st:=kW) l_16 c_16 k_16;have b_16:=F_16.binds (ps:=["web", "piece"]) fun _ _ _ _ _ _ us hl=>L2.on2 (C:=fun us=>bindArgs _ ⟨us,[]⟩=pure (List.zip _ us)) hl fun _ _=>rfl
 have F_17:=bQ (st:=dC) l_17 c_17 k_17;have b_17:=F_17.binds (ps:=["texts", "text", "words"]) fun _ _ _ _ _ _ us hl=>L2.on3 (C:=fun us=>bindArgs _ ⟨us,[]⟩=pure (List.zip _ us)) hl fun _ _ _=>rfl
 have F_18:=bQ (st:=cC) l_18 c_18 k_18;have b_18:=F_18.binds (ps:=["ways"]) fun _ _ _ _ _ _ us hl=>L2.on1 (C:=fun us=>bindArgs _ ⟨us,[]⟩=pure (List.zip _ us)) hl fun _=>rfl
 have F_19:=bQ (st:=eA) l_19 c_19 k_19;have b_19:=F_19.binds (ps:=["web", "piece"]) fun _ _ _ _ _ _ us hl=>L2.on2 (C:=fun us=>bindArgs _ ⟨us,[]⟩=pure (List.zip _ us)) hl fun _ _=>rfl
 have F_20:=bQ (st:=eV) l_20 c_20 k_20;have b_20:=F_20.binds (ps:=["web", "piece"]) fun _ _ _ _ _ _ us hl=>L2.on2 (C:=fun us=>bindArgs _ ⟨us,[]⟩=pure (List.zip _ us)) hl fun _ _=>rfl
 have F_21:=bQ (st:=fH) l_21 c_21 k_21;have b_21:=F_21.binds (ps:=["words", "piece"]) fun _ _ _ _ _ _ us hl=>L2.on2 (C:=fun us=>bindArgs _ ⟨us,[]⟩=pure (List.zip _ us)) hl fun _ _=>rfl
 have F_22:=bQ (st:=fM) l_22 c_22 k_22;have b_22:=F_22.binds (ps:=["web", "piece", "tree"]) fun _ _ _ _ _ _ us hl=>L2.on3 (C:=fun us=>bindArgs _ ⟨us,[]⟩=pure (List.zip _ us)) hl fun _ _ _=>rfl
 have F_23:=bQ (st:=gJ) l_23 c_23 k_23;have b_23:=F_23.binds (ps:=["web", "piece", "number"]) fun _ _ _ _ _ _ us hl=>L2.on3 (C:=fun us=>bindArgs _ ⟨us,[]⟩=pure (List.zip _ us)) hl fun _ _ _=>rfl
 have F_24:=bQ (st:=dZ) l_24 c_24 k_24;have b_24:=F_24.binds (ps:=["web", "piece", "tree"]) fun _ _ _ _ _ _ us hl=>L2.on3 (C:=fun us=>bindArgs _ ⟨us,[]⟩=pure (List.zip _ us)) hl fun _ _ _=>rfl
 have F_25:=bQ (st:=dO) l_25 c_25 k_25;have b_25:=F_25.binds (ps:=["script", "k"]) fun _ _ _ _ _ _ us hl=>L2.on2 (C:=fun us=>bindArgs _ ⟨us,[]⟩=pure (List.zip _ us)) hl fun _ _=>rfl
 have F_26:=bQ (st:=fA) l_26 c_26 k_26;have b_26:=F_26.binds (ps:=["found", "due"]) fun _ _ _ _ _ _ us hl=>L2.on2 (C:=fun us=>bindArgs _ ⟨us,[]⟩=pure (List.zip _ us)) hl fun _ _=>rfl
 have F_27:=bQ (st:=eP) l_27 c_27 k_27;have b_27:=F_27.binds (ps:=["cells", "kinds", "first"]) fun _ _ _ _ _ _ us hl=>L2.on3 (C:=fun us=>bindArgs _ ⟨us,[]⟩=pure (List.zip _ us)) hl fun _ _ _=>rfl
 have F_28:=bQ (st:=cL) l_28 c_28 k_28;have b_28:=F_28.binds (ps:=["script", "at", "most"]) fun _ _ _ _ _ _ us hl=>L2.on3 (C:=fun us=>bindArgs _ ⟨us,[]⟩=pure (List.zip _ us)) hl fun _ _ _=>rfl
 have F_29:=bQ (st:=dU) l_29 c_29 k_29;have b_29:=F_29.binds (ps:=["kinds", "length"]) fun _ _ _ _ _ _ us hl=>L2.on2 (C:=fun us=>bindArgs _ ⟨us,[]⟩=pure (List.zip _ us)) hl fun _ _=>rfl
 have F_30:=bQ (st:=cF) l_30 c_30 k_30;have b_30:=F_30.binds (ps:=["cell", "most"]) fun _ _ _ _ _ _ us hl=>L2.on2 (C:=fun us=>bindArgs _ ⟨us,[]⟩=pure (List.zip _ us)) hl fun _ _=>rfl
 have F_31:=bQ (st:=cK) l_31 c_31 k_31;have b_31:=F_31.binds (ps:=["script", "at", "most"]) fun _ _ _ _ _ _ us hl=>L2.on3 (C:=fun us=>bindArgs _ ⟨us,[]⟩=pure (List.zip _ us)) hl fun _ _ _=>rfl
 have F_32:=bQ (st:=fK) l_32 c_32 k_32;have b_32:=F_32.binds (ps:=["words", "piece"]) fun _ _ _ _ _ _ us hl=>L2.on2 (C:=fun us=>bindArgs _ ⟨us,[]⟩=pure (List.zip _ us)) hl fun _ _=>rfl
 have F_33:=bQ (st:=eW) l_33 c_33 k_33;have b_33:=F_33.binds (ps:=["chosen"]) fun _ _ _ _ _ _ us hl=>L2.on1 (C:=fun us=>bindArgs _ ⟨us,[]⟩=pure (List.zip _ us)) hl fun _=>rfl
 have F_34:=bQ (st:=cX) l_34 c_34 k_34;have b_34:=F_34.binds (ps:=["words", "piece", "tree"]) fun _ _ _ _ _ _ us hl=>L2.on3 (C:=fun us=>bindArgs _ ⟨us,[]⟩=pure (List.zip _ us)) hl fun _ _ _=>rfl
 have F_35:=bQ (st:=dJ) l_35 c_35 k_35;have b_35:=F_35.binds (ps:=["script", "many"]) fun _ _ _ _ _ _ us hl=>L2.on2 (C:=fun us=>bindArgs _ ⟨us,[]⟩=pure (List.zip _ us)) hl fun _ _=>rfl
 have F_36:=bQ (st:=jI) l_36 c_36 k_36;refine ⟨PySem.W.fnOf "law" "law" (aV jI) (aU jI) (aE jI) .none kV_36 dc_36 pm_36 an_36 cd_36 ct_36,fun s v=>.of_eq rfl,fun base _ _=>?_⟩
 have C_0:Cal l.prog w K mg base (CX1 l.prog w) "further_times" 1 ["place", "last"] uC:=⟨⟨_,_,mQ F_0 tt,PySem.W.mg_of X G a_0,F_0.kp,b_0⟩⟩
 have C_1:Cal l.prog w K mg base (CX1 l.prog w) "inverse" 1 ["number", "prime"] uI:=⟨⟨_,_,yB F_1 tt,PySem.W.mg_of X G a_1,F_1.kp,b_1⟩⟩
 have C_2:Cal l.prog w K mg base (CX1 l.prog w) "lowered" 1 ["row", "top", "back", "prime"] (Hm K):=⟨⟨_,_,zB F_2 tt,PySem.W.mg_of X G a_2,F_2.kp,b_2⟩⟩
 have C_3:Cal l.prog w K mg base (CX1 l.prog w) "first_other_than_nought" 1 ["numbers"] (tQ K):=⟨⟨_,_,gS F_3 tt,PySem.W.mg_of X G a_3,F_3.kp,b_3⟩⟩
 have C_4:Cal l.prog w K mg base (CX1 l.prog w) "determinant_rest" 2 ["square", "prime"] (yG K):=⟨⟨_,_,kH F_4 tt C_3 C_1 C_2,PySem.W.mg_of X G a_4,F_4.kp,b_4⟩⟩
 have C_5:Cal l.prog w K mg base (CX1 l.prog w) "greatest_of" 1 ["square"] (uY K):=⟨⟨_,_,pA F_5 tt,PySem.W.mg_of X G a_5,F_5.kp,b_5⟩⟩
 have C_6:Cal l.prog w K mg base (CX1 l.prog w) "determinant" 3 ["square"] (Gd K):=⟨⟨_,_,qG F_6 tt C_5 C_4 C_0 C_1,PySem.W.mg_of X G a_6,F_6.kp,b_6⟩⟩
 have C_7:Cal l.prog w K mg base (CX1 l.prog w) "looked_kinds" 1 ["kinds"] (lT _):=⟨⟨_,_,nU F_7 tt,PySem.W.mg_of X G a_7,F_7.kp,b_7⟩⟩
 have C_8:Cal l.prog w K mg base (CX1 l.prog w) "looked_length" 2 ["length", "kinds"] (zH _):=⟨⟨_,_,nD F_8 tt C_7,PySem.W.mg_of X G a_8,F_8.kp,b_8⟩⟩
 have C_9:Cal l.prog w K mg base (CX1 l.prog w) "letters" 2 ["kinds"] (kT _):=⟨⟨_,_,yX F_9 tt C_7,PySem.W.mg_of X G a_9,F_9.kp,b_9⟩⟩
 have C_10:Cal l.prog w K mg base (CX1 l.prog w) "looked" 3 ["word", "kinds"] (mM _):=⟨⟨_,_,Bq F_10 tt C_8 C_9,PySem.W.mg_of X G a_10,F_10.kp,b_10⟩⟩
 have C_11:Cal l.prog w K mg base (CX1 l.prog w) "looked_web" 4 ["words"] (xZ K):=⟨⟨_,_,rS F_11 tt C_10,PySem.W.mg_of X G a_11,F_11.kp,b_11⟩⟩
 have C_12:Cam l.prog w K mg base (CX1 l.prog w) "Web" c_Web 5 ["self", "words"] (yF K _):=⟨⟨_,_,xN F_12 tt C_11,⟨mk_Web,a_12,i_Web_init,kc_Web⟩,PySem.W.mg_of X G y_Web,b_12⟩⟩
 have C_13:Cal l.prog w K mg base (CX1 l.prog w) "begin_of" 1 ["word"] iO:=⟨⟨_,_,vX F_13 tt,PySem.W.mg_of X G a_13,F_13.kp,b_13⟩⟩
 have C_14:Cal l.prog w K mg base (CX1 l.prog w) "end_of" 1 ["word"] xV:=⟨⟨_,_,Bz F_14 tt,PySem.W.mg_of X G a_14,F_14.kp,b_14⟩⟩
 have C_15:Cal l.prog w K mg base (CX1 l.prog w) "pieces" 2 ["web"] (qC c_Web):=⟨⟨_,_,Dr F_15 tt C_13 C_14,PySem.W.mg_of X G a_15,F_15.kp,b_15⟩⟩
 have C_16:Cal l.prog w K mg base (CX1 l.prog w) "outs" 2 ["web", "piece"] (qR c_Web):=⟨⟨_,_,Iq F_16 tt C_13,PySem.W.mg_of X G a_16,F_16.kp,b_16⟩⟩
 have C_17:Cal l.prog w K mg base (CX1 l.prog w) "choice_row" 2 ["texts", "text", "words"] (zR K):=⟨⟨_,_,rO F_17 tt C_14,PySem.W.mg_of X G a_17,F_17.kp,b_17⟩⟩
 have C_18:Cal l.prog w K mg base (CX1 l.prog w) "choices_counted" 4 ["ways"] (iJ K):=⟨⟨_,_,lG F_18 tt C_6 C_17,PySem.W.mg_of X G a_18,F_18.kp,b_18⟩⟩
 have C_19:Cal l.prog w K mg base (CX1 l.prog w) "ways_toward" 3 ["web", "piece"] (kB c_Web _):=⟨⟨_,_,qL F_19 tt C_15 C_16,PySem.W.mg_of X G a_19,F_19.kp,b_19⟩⟩
 have C_20:Cal l.prog w K mg base (CX1 l.prog w) "tree_count" 5 ["web", "piece"] (yY c_Web _):=⟨⟨_,_,rJ F_20 tt C_18 C_19,PySem.W.mg_of X G a_20,F_20.kp,b_20⟩⟩
 have C_21:Cal l.prog w K mg base (CX1 l.prog w) "coming_to" 2 ["words", "piece"] (zQ K):=⟨⟨_,_,vQ F_21 tt C_14 C_13,PySem.W.mg_of X G a_21,F_21.kp,b_21⟩⟩
 have C_22:Cal l.prog w K mg base (CX1 l.prog w) "is_tree" 4 ["web", "piece", "tree"] (qF K c_Web _):=⟨⟨_,_,zA F_22 tt C_19 C_13 C_21,PySem.W.mg_of X G a_22,F_22.kp,b_22⟩⟩
 have C_23:Cal l.prog w K mg base (CX1 l.prog w) "tree_by" 5 ["web", "piece", "number"] (pQ c_Web _):=⟨⟨_,_,yS F_23 tt C_19 C_18 C_16,PySem.W.mg_of X G a_23,F_23.kp,b_23⟩⟩
 have C_24:Cal l.prog w K mg base (CX1 l.prog w) "tree_number" 5 ["web", "piece", "tree"] (uF K c_Web _):=⟨⟨_,_,qJ F_24 tt C_19 C_22 C_13 C_16 C_18,PySem.W.mg_of X G a_24,F_24.kp,b_24⟩⟩
 have C_25:Cal l.prog w K mg base (CX1 l.prog w) "_law_cell_at" 1 ["script", "k"] (qS K):=⟨⟨_,_,oF F_25 tt,PySem.W.mg_of X G a_25,F_25.kp,b_25⟩⟩
 have C_26:Cal l.prog w K mg base (CX1 l.prog w) "_law_whole" 1 ["found", "due"] uE:=⟨⟨_,_,rQ F_26 tt,PySem.W.mg_of X G a_26,F_26.kp,b_26⟩⟩
 have C_27:Cal l.prog w K mg base (CX1 l.prog w) "_law_walk" 1 ["cells", "kinds", "first"] (yK K):=⟨⟨_,_,vU F_27 tt,PySem.W.mg_of X G a_27,F_27.kp,b_27⟩⟩
 have C_28:Cal l.prog w K mg base (CX1 l.prog w) "_law_ring_words" 2 ["script", "at", "most"] (pE K):=⟨⟨_,_,kX F_28 tt C_25 C_27,PySem.W.mg_of X G a_28,F_28.kp,b_28⟩⟩
 have C_29:Cal l.prog w K mg base (CX1 l.prog w) "_law_every" 1 ["kinds", "length"] uO:=⟨⟨_,_,rH F_29 tt,PySem.W.mg_of X G a_29,F_29.kp,b_29⟩⟩
 have C_30:Cal l.prog w K mg base (CX1 l.prog w) "_law_digit_words" 2 ["cell", "most"] vS:=⟨⟨_,_,kE F_30 tt C_29,PySem.W.mg_of X G a_30,F_30.kp,b_30⟩⟩
 have C_31:Cal l.prog w K mg base (CX1 l.prog w) "_law_some_words" 3 ["script", "at", "most"] (uS K):=⟨⟨_,_,lB F_31 tt C_25 C_28 C_30,PySem.W.mg_of X G a_31,F_31.kp,b_31⟩⟩
 have C_32:Cal l.prog w K mg base (CX1 l.prog w) "_law_ways" 1 ["words", "piece"] (vJ K):=⟨⟨_,_,vD F_32 tt,PySem.W.mg_of X G a_32,F_32.kp,b_32⟩⟩
 have C_33:Cal l.prog w K mg base (CX1 l.prog w) "_law_comes" 1 ["chosen"] uD:=⟨⟨_,_,rW F_33 tt,PySem.W.mg_of X G a_33,F_33.kp,b_33⟩⟩
 have C_34:Cal l.prog w K mg base (CX1 l.prog w) "_law_is_tree" 2 ["words", "piece", "tree"] (yL K):=⟨⟨_,_,nX F_34 tt C_32 C_33,PySem.W.mg_of X G a_34,F_34.kp,b_34⟩⟩
 have C_35:Cal l.prog w K mg base (CX1 l.prog w) "_law_numbers" 1 ["script", "many"] (yV K):=⟨⟨_,_,oH F_35 tt,PySem.W.mg_of X G a_35,F_35.kp,b_35⟩⟩
 exact Lb F_36 tt C_31 C_12 C_25 C_20 C_35 C_23 C_34 C_26 C_24
theorem walk {l : PySem.W.OpenLaw} {q : Program} {loose : List Str} {XP : (Str → Option Value) → Heap → Prop} {YP : World → Heap → Prop} {d : DefRec} {K : Params → PySem.W.Frag} (hn : l.most = some 63) (hdf : d.params.defaults = [])
  (hY : ∀ (w : World) (h : Heap), YP w h → (K w.params).In h)
  (F : ∀ (w : World) (mg : Str → Option Value) (fa : Addr) (h : Heap), (K w.params).In h → h.Ns mainGlobals mg → mg d.name = some (.ref fa) →
   ∃ fd : FuncData, (∀ (s : Shared) (u : Value), BindsTo s fd ⟨[u], []⟩ [("script", u)]) ∧ ∀ base : Heap, (K w.params).In base → base.Ns mainGlobals mg → cO l.prog w (K w.params) mg base (CX1 l.prog w) 7 fa fd ["script"] (Ad (K w.params))) :
  PySem.W.WalkO q loose XP YP l.row.toRowW d [] (fun f vs => PySem.call f vs) :=
 L2.Ii (n := 63) (k := 7) (x := "script") (CX := fun w => CX1 l.prog w) (sp := fun w => Ad (K w.params)) hn (by decide) hdf ⟨rfl, by decide, by decide⟩ hY F (fun _ _ a ns hl _ hS => ⟨a, ns, rfl, hS, hl, fun _ => rfl⟩) fun _ _ _ _ _ ⟨_, _, _, _, _, z⟩ => z
end K33
theorem PySem.W.Fast.tw13554645179127231488:True:=trivial
theorem PySem.W.Fast.tw12092511318929140864:True:=trivial
theorem PySem.W.Fast.tw9375106042133252352:True:=trivial
theorem PySem.W.Fast.tw3445193295363511552:True:=trivial
theorem PySem.W.Fast.tw5348496120582911328:True:=trivial
theorem PySem.W.Fast.tw17332103325986298272:True:=trivial
theorem PySem.W.Fast.tw17279926669163489888:True:=trivial
theorem PySem.W.Fast.tw1728044531323772832:True:=trivial
theorem PySem.W.Fast.tw15046559663476702176:True:=trivial
theorem PySem.W.Fast.tw12463062739774014049:True:=trivial
theorem PySem.W.Fast.tw852763276598535905:True:=trivial
theorem PySem.W.Fast.tw14752432748000122114:True:=trivial
theorem PySem.W.Fast.tw16839946280220618755:True:=trivial
theorem PySem.W.Fast.tw2165665136723875875:True:=trivial
theorem PySem.W.Fast.tw5450489741775818083:True:=trivial
theorem PySem.W.Fast.tw14080662985230631363:True:=trivial
theorem PySem.W.Fast.tw7995953209217920611:True:=trivial
theorem PySem.W.Fast.tw3753367165653991139:True:=trivial
theorem PySem.W.Fast.tw11760124000348208003:True:=trivial
theorem PySem.W.Fast.tw14378441017899163523:True:=trivial
theorem PySem.W.Fast.tw9249194563941732420:True:=trivial
theorem PySem.W.Fast.tw8556880343111445636:True:=trivial
theorem PySem.W.Fast.tw5566941894064868516:True:=trivial
theorem PySem.W.Fast.tw11820082202445666468:True:=trivial
theorem PySem.W.Fast.tw15110480418538472740:True:=trivial
theorem PySem.W.Fast.tw4143530337169766724:True:=trivial
theorem PySem.W.Fast.tw17795208239526596228:True:=trivial
theorem PySem.W.Fast.tw7758176125037052708:True:=trivial
theorem PySem.W.Fast.tw10070293722968084292:True:=trivial
theorem PySem.W.Fast.tw16051569901597281349:True:=trivial
theorem PySem.W.Fast.tw3948925828425605189:True:=trivial
theorem PySem.W.Fast.tw7486154136975583333:True:=trivial
theorem PySem.W.Fast.tw17821261670346126437:True:=trivial
theorem PySem.W.Fast.tw10065438770760466565:True:=trivial
theorem PySem.W.Fast.tw13016555875320419461:True:=trivial
theorem PySem.W.Fast.tw13268504522491148645:True:=trivial
theorem PySem.W.Fast.tw4963654180336132453:True:=trivial
theorem PySem.W.Fast.tw8381667705352049157:True:=trivial
theorem PySem.W.Fast.tw7564610460456486725:True:=trivial
theorem PySem.W.Fast.tw2161508622046268261:True:=trivial
theorem PySem.W.Fast.tw2598938554536854501:True:=trivial
theorem PySem.W.Fast.tw1230940714115559397:True:=trivial
theorem PySem.W.Fast.tw11358294579339844614:True:=trivial
theorem PySem.W.Fast.tw12905350910956961030:True:=trivial
theorem PySem.W.Fast.tw14706499979351723558:True:=trivial
theorem PySem.W.Fast.tw10562239652344016806:True:=trivial
theorem PySem.W.Fast.tw9665962120529096678:True:=trivial
theorem PySem.W.Fast.tw15075516517481971751:True:=trivial
theorem PySem.W.Fast.tw11619530172215091399:True:=trivial
theorem PySem.W.Fast.tw2787245587627379975:True:=trivial
theorem PySem.W.Fast.tw15058450267659014407:True:=trivial
theorem PySem.W.Fast.tw2315273110599382343:True:=trivial
theorem PySem.W.Fast.tw16371497672985555431:True:=trivial
theorem PySem.W.Fast.tw4786324705139139271:True:=trivial
theorem PySem.W.Fast.tw14023051072684058439:True:=trivial
theorem PySem.W.Fast.tw17271649857626474375:True:=trivial
theorem PySem.W.Fast.tw6152542597095952808:True:=trivial
theorem PySem.W.Fast.tw14154460958828981832:True:=trivial
theorem PySem.W.Fast.tw1807931216111147944:True:=trivial
theorem PySem.W.Fast.tw7167849778576664585:True:=trivial
theorem PySem.W.Fast.tw4521848650551435465:True:=trivial
theorem PySem.W.Fast.tw3097096492523376873:True:=trivial
theorem PySem.W.Fast.tw7393804868383608842:True:=trivial
theorem PySem.W.Fast.tw1877990164509079562:True:=trivial
theorem PySem.W.Fast.tw2738277931934933162:True:=trivial
theorem PySem.W.Fast.tw10337330839509434026:True:=trivial
theorem PySem.W.Fast.tw15623017387859541802:True:=trivial
theorem PySem.W.Fast.tw17090214516741102442:True:=trivial
theorem PySem.W.Fast.tw11755265256649524170:True:=trivial
theorem PySem.W.Fast.tw8177518679482223339:True:=trivial
theorem PySem.W.Fast.tw4945938409644633035:True:=trivial
theorem PySem.W.Fast.tw12212735799255789612:True:=trivial
theorem PySem.W.Fast.tw8376871953084536972:True:=trivial
theorem PySem.W.Fast.tw596987650044398156:True:=trivial
theorem PySem.W.Fast.tw13525581268285029004:True:=trivial
theorem PySem.W.Fast.tw51906208722776812:True:=trivial
theorem PySem.W.Fast.tw481229013611691852:True:=trivial
theorem PySem.W.Fast.tw2033515472234604717:True:=trivial
theorem PySem.W.Fast.tw17857150322372739405:True:=trivial
theorem PySem.W.Fast.tw16752038258150969709:True:=trivial
theorem PySem.W.Fast.tw16054982474413613581:True:=trivial
theorem PySem.W.Fast.tw15826144217669921485:True:=trivial
theorem PySem.W.Fast.tw14398465843615124365:True:=trivial
theorem PySem.W.Fast.tw8956447982785185038:True:=trivial
theorem PySem.W.Fast.tw3996682861629445422:True:=trivial
theorem PySem.W.Fast.tw13720216075881842030:True:=trivial
theorem PySem.W.Fast.tw13273547412988817806:True:=trivial
theorem PySem.W.Fast.tw7960164254942308846:True:=trivial
theorem PySem.W.Fast.tw3304506992388310606:True:=trivial
theorem PySem.W.Fast.tw9522800713942069934:True:=trivial
theorem PySem.W.Fast.tw10248995915379994318:True:=trivial
theorem PySem.W.Fast.tw1405078290272207630:True:=trivial
theorem PySem.W.Fast.tw2044451880547271630:True:=trivial
theorem PySem.W.Fast.tw17757699919617021423:True:=trivial
theorem PySem.W.Fast.tw4507445277465652751:True:=trivial
theorem PySem.W.Fast.tw15576621756892401327:True:=trivial
theorem PySem.W.Fast.tw7610238003785029327:True:=trivial
theorem PySem.W.Fast.tw18145613330139306000:True:=trivial
theorem PySem.W.Fast.tw12572176655005978672:True:=trivial
theorem PySem.W.Fast.tw12907500501053745232:True:=trivial
theorem PySem.W.Fast.tw17131877474114598064:True:=trivial
theorem PySem.W.Fast.tw15687936824279680208:True:=trivial
theorem PySem.W.Fast.te16038861283460937936:True:=trivial
theorem PySem.W.Fast.tw14732682462083819760:True:=trivial
theorem PySem.W.Fast.tw5651123838948089168:True:=trivial
theorem PySem.W.Fast.tw15330786700693877136:True:=trivial
theorem PySem.W.Fast.tw12755180396395958832:True:=trivial
theorem PySem.W.Fast.tw10188938434392692753:True:=trivial
theorem PySem.W.Fast.tw11516477199198152721:True:=trivial
theorem PySem.W.Fast.tw9365673042273569905:True:=trivial
theorem PySem.W.Fast.tw17583994709340430513:True:=trivial
theorem PySem.W.Fast.tw2036731457429978449:True:=trivial
theorem PySem.W.Fast.tw9753996376851489489:True:=trivial
theorem PySem.W.Fast.tw5674986167437694066:True:=trivial
theorem PySem.W.Fast.tw1206268443495641554:True:=trivial
theorem PySem.W.Fast.tw13589603806863055602:True:=trivial
theorem PySem.W.Fast.tw11051368107937300210:True:=trivial
theorem PySem.W.Fast.tw14738387023453737874:True:=trivial
theorem PySem.W.Fast.tw3957351746531138579:True:=trivial
theorem PySem.W.Fast.tw1578399059571933267:True:=trivial
theorem PySem.W.Fast.tw13213037638599217491:True:=trivial
theorem PySem.W.Fast.tw13241738000834181587:True:=trivial
theorem PySem.W.Fast.tw8696454391570885075:True:=trivial
theorem PySem.W.Fast.tw4566170654719428179:True:=trivial
theorem PySem.W.Fast.tw435386381456364179:True:=trivial
theorem PySem.W.Fast.tw13651420621071955667:True:=trivial
theorem PySem.W.Fast.tw5518919437185497939:True:=trivial
theorem PySem.W.Fast.tw11032242330555352979:True:=trivial
theorem PySem.W.Fast.tw13585563878591869907:True:=trivial
theorem PySem.W.Fast.tw256938469768894548:True:=trivial
theorem PySem.W.Fast.tw12376847602810004788:True:=trivial
theorem PySem.W.Fast.tw12769618237879235924:True:=trivial
theorem PySem.W.Fast.tw457247653210065492:True:=trivial
theorem PySem.W.Fast.tw11048623964065365716:True:=trivial
theorem PySem.W.Fast.tw14311476673274169108:True:=trivial
theorem PySem.W.Fast.tw10050609256604042421:True:=trivial
theorem PySem.W.Fast.tw2674002411106730165:True:=trivial
theorem PySem.W.Fast.tw6436278032661011925:True:=trivial
theorem PySem.W.Fast.tw9702609204411051637:True:=trivial
theorem PySem.W.Fast.tw17574210829991338294:True:=trivial
theorem PySem.W.Fast.tw14634943712469376566:True:=trivial
theorem PySem.W.Fast.tw12229950855561643830:True:=trivial
theorem PySem.W.Fast.tw9112043894503323446:True:=trivial
theorem PySem.W.Fast.tw15995591697625079798:True:=trivial
theorem PySem.W.Fast.tw9937917782354630935:True:=trivial
theorem PySem.W.Fast.tw4783986655235295543:True:=trivial
theorem PySem.W.Fast.tw13215543202159759767:True:=trivial
theorem PySem.W.Fast.tw16155541046468099479:True:=trivial
theorem PySem.W.Fast.tw4862880909993669144:True:=trivial
theorem PySem.W.Fast.tw3967858662358766392:True:=trivial
theorem PySem.W.Fast.tw14790191267459759928:True:=trivial
theorem PySem.W.Fast.tw12056338318232667161:True:=trivial
theorem PySem.W.Fast.tw16665825797904211033:True:=trivial
theorem PySem.W.Fast.tw16487072996697335929:True:=trivial
theorem PySem.W.Fast.tw6115893412939625593:True:=trivial
theorem PySem.W.Fast.tw15836714754116450425:True:=trivial
theorem PySem.W.Fast.tw17252281537916265625:True:=trivial
theorem PySem.W.Fast.tw650910413730056441:True:=trivial
theorem PySem.W.Fast.tw11536836775227021593:True:=trivial
theorem PySem.W.Fast.tw7480379979641589241:True:=trivial
theorem PySem.W.Fast.tw5775959822699417369:True:=trivial
theorem PySem.W.Fast.tw11404837036208924601:True:=trivial
theorem PySem.W.Fast.tw8396458808353140665:True:=trivial
theorem PySem.W.Fast.tw17677195103429571642:True:=trivial
theorem PySem.W.Fast.tw10338281148316077242:True:=trivial
theorem PySem.W.Fast.tw13495031471588307386:True:=trivial
theorem PySem.W.Fast.tw7512008317017671803:True:=trivial
theorem PySem.W.Fast.tw2152795347589641403:True:=trivial
theorem PySem.W.Fast.tw8784069578888412507:True:=trivial
theorem PySem.W.Fast.tw7617802062818181723:True:=trivial
theorem PySem.W.Fast.tw682052430725117627:True:=trivial
theorem PySem.W.Fast.tw12793339136038952060:True:=trivial
theorem PySem.W.Fast.tw12140228660149449884:True:=trivial
theorem PySem.W.Fast.tw1219641300305249468:True:=trivial
theorem PySem.W.Fast.tw2764687899361854972:True:=trivial
theorem PySem.W.Fast.tw3826012226305928732:True:=trivial
theorem PySem.W.Fast.tw13325515987499832060:True:=trivial
theorem PySem.W.Fast.tw3903760337073462172:True:=trivial
theorem PySem.W.Fast.tw3708409611112334365:True:=trivial
theorem PySem.W.Fast.tw14398878060476354653:True:=trivial
theorem PySem.W.Fast.tw13780128419959367805:True:=trivial
theorem PySem.W.Fast.tw7969047389853901245:True:=trivial
theorem PySem.W.Fast.tw12771913265075321373:True:=trivial
theorem PySem.W.Fast.tw16947002874184062557:True:=trivial
theorem PySem.W.Fast.tw11654919639993688829:True:=trivial
theorem PySem.W.Fast.tw5345751172341276766:True:=trivial
theorem PySem.W.Fast.tw10989821362824655038:True:=trivial
theorem PySem.W.Fast.tw7059423264019807038:True:=trivial
theorem PySem.W.Fast.tw13917516375134686046:True:=trivial
theorem PySem.W.Fast.tw17912731918098042911:True:=trivial
theorem PySem.W.Fast.tw1347636579308932191:True:=trivial
theorem PySem.W.Fast.tw4523227004356301023:True:=trivial
theorem PySem.W.Fast.tw12941893469378221375:True:=trivial
theorem PySem.W.Fast.tw12373645502382284287:True:=trivial
theorem PySem.W.Fast.tw5653453517037362847:True:=trivial
def PySem.W.Fast.tw2373887935327049633:=PySem.Challenge.pw_onceround_k33_trees_there_and_back
theorem PySem.W.Fast.te2373887935327049633:PySem.Challenge.pw_onceround_k33_trees_there_and_back=PySem.W.Fast.tw2373887935327049633:=rfl
end
open PySem PySem.W PyProof.Rows
set_option maxRecDepth 100000 in
set_option maxHeartbeats 0 in
theorem PySem.Challenge.cw_onceround_k33_trees_there_and_back_holds : PySem.Challenge.rw_onceround_k33_trees_there_and_back.Holds := by
  w_on; o_law; k_head; (case hw => w_witness2)
  k_fill
  refine K33.walk (l := PySem.Challenge.rw_onceround_k33_trees_there_and_back) rfl rfl (fun w h Y => PySem.W.kIn_of Y) ?F
  case F =>
    intro w mg fa h KX G hmg
    refine' K33.all_mk KX G hmg ?a_0 ?l_0 ?c_0 ?k_0 ?a_1 ?l_1 ?c_1 ?k_1 ?a_2 ?l_2 ?c_2 ?k_2 ?a_3 ?l_3 ?c_3 ?k_3 ?a_4 ?l_4 ?c_4 ?k_4 ?a_5 ?l_5 ?c_5 ?k_5 ?a_6 ?l_6 ?c_6 ?k_6 ?a_7 ?l_7 ?c_7 ?k_7 ?a_8 ?l_8 ?c_8 ?k_8 ?a_9 ?l_9 ?c_9 ?k_9 ?a_10 ?l_10 ?c_10 ?k_10 ?a_11 ?l_11 ?c_11 ?k_11 ?a_12 ?l_12 ?c_12 ?k_12 ?i_Web_init ?a_13 ?l_13 ?c_13 ?k_13 ?a_14 ?l_14 ?c_14 ?k_14 ?a_15 ?l_15 ?c_15 ?k_15 ?a_16 ?l_16 ?c_16 ?k_16 ?a_17 ?l_17 ?c_17 ?k_17 ?a_18 ?l_18 ?c_18 ?k_18 ?a_19 ?l_19 ?c_19 ?k_19 ?a_20 ?l_20 ?c_20 ?k_20 ?a_21 ?l_21 ?c_21 ?k_21 ?a_22 ?l_22 ?c_22 ?k_22 ?a_23 ?l_23 ?c_23 ?k_23 ?a_24 ?l_24 ?c_24 ?k_24 ?a_25 ?l_25 ?c_25 ?k_25 ?a_26 ?l_26 ?c_26 ?k_26 ?a_27 ?l_27 ?c_27 ?k_27 ?a_28 ?l_28 ?c_28 ?k_28 ?a_29 ?l_29 ?c_29 ?k_29 ?a_30 ?l_30 ?c_30 ?k_30 ?a_31 ?l_31 ?c_31 ?k_31 ?a_32 ?l_32 ?c_32 ?k_32 ?a_33 ?l_33 ?c_33 ?k_33 ?a_34 ?l_34 ?c_34 ?k_34 ?a_35 ?l_35 ?c_35 ?k_35 ?a_36 ?l_36 ?c_36 ?k_36 ?z_abs ?z_all ?z_bool ?z_enumerate ?z_int ?z_isinstance ?z_len ?z_list ?z_range ?z_set ?z_sorted ?z_sum ?z_tuple ?z_zip ?y_BadKinds ?y_BadWord ?y_TooMany ?y_NoSuch ?y_NotOne ?y_Web ?y_KNOWN_TIMES ?e_BadKinds ?e_BadWord ?e_TooMany ?e_NoSuch ?e_NotOne ?g_FIRST_PRIME ?r_FIRST_PRIME ?g_STEP ?r_STEP ?g_LETTERS ?r_LETTERS ?g_LONGEST ?r_LONGEST ?g_MOST_OF_A_WEB ?r_MOST_OF_A_WEB ?g_LONGEST_OF_A_WEB ?r_LONGEST_OF_A_WEB ?kt ?pg_Web ?hd_Web ?po_Web ?sa_Web ?mk_Web ?kc_Web ?na_Web_words ?na_Web_length
    (case y_Web => k_is)
    (case a_0 => k_is)
    (case l_0 => k_is)
    (case c_0 => k_is)
    (case k_0 => k_is)
    (case a_1 => k_is)
    (case l_1 => k_is)
    (case c_1 => k_is)
    (case k_1 => k_is)
    (case a_2 => k_is)
    (case l_2 => k_is)
    (case c_2 => k_is)
    (case k_2 => k_is)
    (case a_3 => k_is)
    (case l_3 => k_is)
    (case c_3 => k_is)
    (case k_3 => k_is)
    (case a_4 => k_is)
    (case l_4 => k_is)
    (case c_4 => k_is)
    (case k_4 => k_is)
    (case a_5 => k_is)
    (case l_5 => k_is)
    (case c_5 => k_is)
    (case k_5 => k_is)
    (case a_6 => k_is)
    (case l_6 => k_is)
    (case c_6 => k_is)
    (case k_6 => k_is)
    (case a_7 => k_is)
    (case l_7 => k_is)
    (case c_7 => k_is)
    (case k_7 => k_is)
    (case a_8 => k_is)
    (case l_8 => k_is)
    (case c_8 => k_is)
    (case k_8 => k_is)
    (case a_9 => k_is)
    (case l_9 => k_is)
    (case c_9 => k_is)
    (case k_9 => k_is)
    (case a_10 => k_is)
    (case l_10 => k_is)
    (case c_10 => k_is)
    (case k_10 => k_is)
    (case a_11 => k_is)
    (case l_11 => k_is)
    (case c_11 => k_is)
    (case k_11 => k_is)
    (case a_12 => k_is)
    (case l_12 => k_is)
    (case c_12 => k_is)
    (case k_12 => k_is)
    (case a_13 => k_is)
    (case l_13 => k_is)
    (case c_13 => k_is)
    (case k_13 => k_is)
    (case a_14 => k_is)
    (case l_14 => k_is)
    (case c_14 => k_is)
    (case k_14 => k_is)
    (case a_15 => k_is)
    (case l_15 => k_is)
    (case c_15 => k_is)
    (case k_15 => k_is)
    (case a_16 => k_is)
    (case l_16 => k_is)
    (case c_16 => k_is)
    (case k_16 => k_is)
    (case a_17 => k_is)
    (case l_17 => k_is)
    (case c_17 => k_is)
    (case k_17 => k_is)
    (case a_18 => k_is)
    (case l_18 => k_is)
    (case c_18 => k_is)
    (case k_18 => k_is)
    (case a_19 => k_is)
    (case l_19 => k_is)
    (case c_19 => k_is)
    (case k_19 => k_is)
    (case a_20 => k_is)
    (case l_20 => k_is)
    (case c_20 => k_is)
    (case k_20 => k_is)
    (case a_21 => k_is)
    (case l_21 => k_is)
    (case c_21 => k_is)
    (case k_21 => k_is)
    (case a_22 => k_is)
    (case l_22 => k_is)
    (case c_22 => k_is)
    (case k_22 => k_is)
    (case a_23 => k_is)
    (case l_23 => k_is)
    (case c_23 => k_is)
    (case k_23 => k_is)
    (case a_24 => k_is)
    (case l_24 => k_is)
    (case c_24 => k_is)
    (case k_24 => k_is)
    (case a_25 => k_is)
    (case l_25 => k_is)
    (case c_25 => k_is)
    (case k_25 => k_is)
    (case a_26 => k_is)
    (case l_26 => k_is)
    (case c_26 => k_is)
    (case k_26 => k_is)
    (case a_27 => k_is)
    (case l_27 => k_is)
    (case c_27 => k_is)
    (case k_27 => k_is)
    (case a_28 => k_is)
    (case l_28 => k_is)
    (case c_28 => k_is)
    (case k_28 => k_is)
    (case a_29 => k_is)
    (case l_29 => k_is)
    (case c_29 => k_is)
    (case k_29 => k_is)
    (case a_30 => k_is)
    (case l_30 => k_is)
    (case c_30 => k_is)
    (case k_30 => k_is)
    (case a_31 => k_is)
    (case l_31 => k_is)
    (case c_31 => k_is)
    (case k_31 => k_is)
    (case a_32 => k_is)
    (case l_32 => k_is)
    (case c_32 => k_is)
    (case k_32 => k_is)
    (case a_33 => k_is)
    (case l_33 => k_is)
    (case c_33 => k_is)
    (case k_33 => k_is)
    (case a_34 => k_is)
    (case l_34 => k_is)
    (case c_34 => k_is)
    (case k_34 => k_is)
    (case a_35 => k_is)
    (case l_35 => k_is)
    (case c_35 => k_is)
    (case k_35 => k_is)
    (case a_36 => k_is)
    (case l_36 => k_is)
    (case c_36 => k_is)
    (case k_36 => k_is)
    (case z_abs => k_is)
    (case z_all => k_is)
    (case z_bool => k_is)
    (case z_enumerate => k_is)
    (case z_int => k_is)
    (case z_isinstance => k_is)
    (case z_len => k_is)
    (case z_list => k_is)
    (case z_range => k_is)
    (case z_set => k_is)
    (case z_sorted => k_is)
    (case z_sum => k_is)
    (case z_tuple => k_is)
    (case z_zip => k_is)
    (case y_BadKinds => k_is)
    (case y_BadWord => k_is)
    (case y_TooMany => k_is)
    (case y_NoSuch => k_is)
    (case y_NotOne => k_is)
    (case y_KNOWN_TIMES => k_is)
    (case e_BadKinds => kernel_rfl)
    (case e_BadWord => kernel_rfl)
    (case e_TooMany => kernel_rfl)
    (case e_NoSuch => kernel_rfl)
    (case e_NotOne => kernel_rfl)
    (case g_FIRST_PRIME => k_is)
    (case r_FIRST_PRIME => exact ⟨_, rfl⟩)
    (case g_STEP => k_is)
    (case r_STEP => exact ⟨_, rfl⟩)
    (case g_LETTERS => k_is)
    (case r_LETTERS => exact ⟨_, rfl⟩)
    (case g_LONGEST => k_is)
    (case r_LONGEST => exact ⟨_, rfl⟩)
    (case g_MOST_OF_A_WEB => k_is)
    (case r_MOST_OF_A_WEB => exact ⟨_, rfl⟩)
    (case g_LONGEST_OF_A_WEB => k_is)
    (case r_LONGEST_OF_A_WEB => exact ⟨_, rfl⟩)
    (case kt => kernel_rfl)
    (case pg_Web => k_is)
    (case hd_Web => k_is)
    (case po_Web => k_is)
    (case sa_Web => k_is)
    (case mk_Web => k_is)
    (case kc_Web => k_is)
    (case na_Web_words => k_is)
    (case na_Web_length => k_is)
    (case i_Web_init => k_is)
#print axioms PySem.Challenge.cw_onceround_k33_trees_there_and_back_holds
