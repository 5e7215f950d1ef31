import PyProof.Rows.All
import Wide.All
import OpenK.AllK
import Wide.FinOn
import Lean
import PyProof.EqAt
import PyProof.EqKinds
import PyProof.TupleCall
import PySem.Challenge.RW_onceround_k32_trees_listed
open Array renaming length_toList->bh,getElem?_eq_getElem->ei,getElem?_toList->et,getD_eq_getD_getElem?->fe,size_map->jc,getElem?_eq_none->j6,eq_empty_of_size_eq_zero->kq,append_assoc->lr,perm_iff_toList_perm->l8,forIn_toList->p9,toList_push->qq,replicate->rn,getD->sh,toList->tu
open Array.Perm renaming refl->ro
open Bool renaming false_ne_true->ak,eq_iff_iff->ci,false_eq_true->cm,and_eq_true->dg,or_false->gs,and_false->ij,or_eq_true->iy,eq_false_iff->j5,beq_eq_decide_eq->j9,not_true->ky,false_and->ou,or_true->tz
open Classical renaming byContradiction->cc,choose->il,choose_spec->i6
open Int renaming toNat_natCast->bt,emod_lt_of_pos->ck,emod_nonneg->db,mul_assoc->dq,natAbs_natCast->e9,mul_zero->gb,mul_comm->gq,one_mul->ir,natCast_mul->iz,mul_le_mul_of_nonneg_right->km,mul_one->k7,mul_le_mul_of_nonneg_left->k9,zero_sub->ln,sub_zero->lq,fdiv_eq_ediv_of_nonneg->lv,natAbs_mul->lz,sub_mul->mi,dvd_mul_of_dvd_right->mm,dvd_mul_of_dvd_left->m4,zero_mul->nr,natCast_add->oj,mul_add->oy,dvd_neg->oz,natAbs_eq_zero->qb,add_zero->qh,dvd_mul_right->qi,natAbs_sub_le->qk,neg_mul->qy,dvd_add->qz
open List renaming length_map->aR,getElem?_eq_getElem->aa,length_append->ag,getD_eq_getElem?_getD->ah,mem_cons_of_mem->ai,getElem?_map->aj,getElem?_eq_some_iff->al,mem_cons_self->am,size_toArray->ao,mem_singleton->aq,mem_map->ar,mem_cons->au,mem_append_right->av,length_cons->aw,map_append->ax,mem_of_getElem?->az,map_cons->a0,mem_append->a6,length_take->a8,map_congr_left->bb,map_map->bf,length_drop->bn,take_add_one->br,take_length->bv,getElem_mem->b6,length_filter_le->b8,nodup_cons->b9,flatMap_cons->ca,mem_filter->cf,length_eq_zero_iff->cj,mem_append_left->cn,getElem?_eq_none->cp,range->cu,mem_map_of_mem->cy,zip->c7,filter_cons_of_pos->c8,filter_cons_of_neg->c9,length_singleton->da,mem_range->de,all_eq_true->dh,nodup_append->di,sum_cons->dk,take_of_length_le->dm,filter_cons->du,append_nil->dy,filter_append->d8,not_mem_nil->eh,getElem?_of_mem->fb,getElem?_append_right->fg,take_sublist->fh,pairwise_map->fk,lt_irrefl->fo,pairwise_iff_getElem->fq,lookup_cons->ft,lookup->gd,length->ge,take_zero->gh,length_range->gi,filterMap_cons->gl,length_pos_iff->gn,nodup_nil->gx,getElem?_append_left->gy,find?_cons->gz,filter_nil->g0,length_eraseIdx->g7,append_assoc->g8,map_id->g9,getElem_toArray->h9,mem_iff_getElem->ia,filterMap_cons_some->ic,mem_flatMap->ik,flatMap_def->im,any_eq_true->iq,idxOf_lt_length_of_mem->i8,drop_zero->jb,perm_ext_iff_of_nodup->jd,map_nil->je,flatMap_map->jg,getElem_map->ji,lt_trans->jm,filterMap_cons_none->jo,map_drop->jp,map_take->jq,filter_map->jr,getElem?_tail->js,getElem?_eraseIdx->jx,reverse_perm->jz,filter_congr->j2,filter_eq_nil_iff->j3,ext_getElem?->j4,mem_iff_getElem?->kc,getElem?_toArray->kf,getElem?_zipWith->kg,mem_reverse->ko,any_cons->kx,not_lt->k8,drop_eq_nil_iff->lb,mem_of_mem_drop->lc,mem_of_mem_take->lf,dropLast_concat_getLast->lg,length_nil->lh,reverse_append->lj,flatMap_append->ll,mem_filterMap->lu,replicate->lx,flatMap_assoc->l5,map_singleton->l6,pairwise_cons->l7,length_eraseIdx_of_lt->ma,drop_sublist->ml,length_erase_of_mem->mo,idxOf_lt_length_iff->mw,sublist_append_left->my,countP_cons->m7,getElem?_cons_succ->m8,map_flatMap->m9,ext_getElem->nj,getElem?_set_self->nn,length_pos_of_mem->nu,pairwise_lt_range->nw,zipWith->n6,of_mem_zip->oe,cons_lt_cons_iff->oo,getElem?_set_ne->oq,mem_erase_of_ne->o0,replicate_succ->pb,map_eq_nil_iff->pc,filter_eq_self->pd,filter_flatMap->pe,length_reverse->pf,length_zipWith->ph,all_cons->pi,getElem_idxOf->pw,getElem?_drop->qc,reverse_cons->qg,all_map->qp,cons_append->qw,flatMap_nil->qx,filter->re,foldl_cons->rj,not_lt_nil->rq,map_id'->ua
open List.Pairwise renaming nil->jw,imp_of_mem->mq,imp₂->ud
open List.Perm renaming append_left->j8,refl->l9,eq_of_pairwise->mn,swap->sd
open List.Sublist renaming refl->qr
open List.cons renaming inj->jl
open Nat renaming le_refl->af,ne_of_lt->ay,le_trans->a7,zero_le->bi,lt_of_lt_of_le->bj,le_of_lt->dv,mul_comm->dw,lt_irrefl->dz,lt_succ_of_lt->d6,lt_of_le_of_lt->d7,pow_le_pow_right->d9,min_eq_left->eg,mul_le_mul->fj,lt_or_ge->fm,ne_of_gt->fu,one_mul->gf,mul_le_mul_right->gg,le_succ->gr,add_mul->gt,lt_succ_self->gu,sub_add_cancel->gv,mul_assoc->ib,mul_le_mul_left->ie,gcd->ig,le_add_right->ip,add_comm->iw,dvd_of_mod_eq_zero->ix,gcd_dvd_right->i7,mul_mod->i9,pow_add->ja,pow_succ->jf,sub_zero->jh,add_le_add_left->jk,pow_mul->jt,zero_add->jy,lt_of_succ_lt->j7,min_le_right->ki,mod_eq_of_lt->kj,mod_lt->kl,not_lt->kr,le_of_eq->lm,add_sub_cancel->ly,pos_of_ne_zero->l0,mul_div_cancel_left->m6,succ_lt_succ->nc,succ_pos->n0,div_add_mod->om,gcd_rec->o6,pow_pos->o7,pow_lt_pow_right->o8,mod_mod_of_dvd->pq,add_right_comm->p8,eq_zero_or_pos->qa,lt_trans->qj,sub_self->ql,add_zero->qm,lt_succ_of_le->qo,le_of_not_lt->qv,pow_mod->ra,mod_mod->rb,mul_one->rc,gcd_le_left->rg,div_le_self->rh,add_le_add->r8,le_of_dvd->tj
open Nat.succ renaming inj->t9
open Option renaming map_eq_some_iff->ba,map_some->gk,isSome_map->mj,isSome_some->pz,getD_none->qu,map->si
open Option.some renaming inj->a5
open PyProof.Rows renaming boot_sorted->dt,callWith_type1->d0,boot_isinstance->i0,SetOf_congr->mx
open PyProof.Rows.F renaming plain_set_update_loop->df,entry_set_update_loop->ej
open PySem renaming boot_len->bc,Scope->dj,strKind->eu,mem_of_lookup->gm,Within->qd,call->r6
open PySem.Challenge renaming pw_onceround_k32_trees_listed->mz
open PySem.EqMixed renaming eq_bool_str->sj,eq_str_bool->sr,ne_bool_str->su,ne_str_bool->sv,eq_int_str->sw,eq_str_int->sx,ne_int_str->sy,ne_str_int->tf
open PySem.F renaming plainAttrs_list->bz,slot_list_append->cq,type_list_append->cr,slot_list_count->ju,slot_dict_get->ke,slot_dict_setdefault->li,args_dict_get_3->ng,plainAttrs_dict->nh,type_list_count->nk,entry_dict_get->ny
open PySem.NameKind renaming «local»->ap,globalImplicit->bo,free->b7,cell->ub
open PySem.ScopeKind renaming function->a9
open PySem.Str renaming ofString->ae
open PySem.W renaming Frag->ac,nsIn->bu,mg_none_of->cx,mg_of->cz,findIn->c6,kia_one->ef,emptyDict->er,keepIn->ff,fnOf->fz,instObj->gj,codeIn->ii,hideAll_get->jj,excIn->jn,hasDictIn->jv,plainGet->kh,mroIn->ku,kitOne->lw,methodObj->me,plainOver->mf,specialIn->mh,cellsFrom_some->nq,takerIn->n8,makesIn->n9,takesIn->oa,OpenLaw->oh,lookIn->ox,of_hideAll->pj,callWith_K->pp,kitx_list->qe,kitx_dict->qf,handedIn->qt,hideAll->rf,WalkO->ti,clsIn->tq,isFn->tw
open PySem.W.Looks renaming here->uc,ld->uf
open Std.Trichotomous renaming trichotomous->iu
open Sum renaming inr->bx,inl->o9
open Sum.inr renaming inj->gc
set_option genSizeOfSpec false
set_option bootstrap.genMatcherCode false
set_option Elab.async false
set_option linter.all false
set_option maxRecDepth 100000
set_option maxHeartbeats 4000000
noncomputable section
namespace L2
open PySem PySem.Spec PyProof.Rows
abbrev Key:=Sum Int Str
def rH:Key->Value->Bool
 | .inl k,v=>Value.isInt k v
 | .inr x,v=>Value.isStrOf x v
def Tx (w:World):Key->Int
 | .inl k=>hashInt k
 | .inr x=>hashStr w x
theorem cS:∀ {k:Key} {v:Value},rH k v=true->(∃ i t,k=o9 i∧v=Value.int i t)∨(∃ x t,k=bx x∧v=Value.str x t)
 | .inl i,v,h=>by
  obtain⟨t,e⟩:=Value.isInt_shape (k:=i) (v:=v) h;exact .inl ⟨i,t,rfl,e⟩
 | .inr x,v,h=>by
  obtain⟨t,e⟩:=Value.isStrOf_shape (x:=x) (v:=v) h;exact .inr ⟨x,t,rfl,e⟩
theorem Ea (i:Int)(t:Tok):rH (.inl i) (.int i t)=true:=by simp[rH,Value.isInt]
theorem Cv (x:Str)(t:Tok):rH (.inr x) (.str x t)=true:=by simp[rH,Value.isStrOf]
theorem Px (a b:Int):decide ((o9 a:Key)=o9 b)=(a==b):=by
 by_cases e:a=b
 ·subst e;simp
 ·have h:¬ (o9 a:Key)=o9 b:=fun q=>e (Sum.inl.inj q)
  rw[decide_eq_false h];exact (beq_eq_false_iff_ne.mpr e).symm
theorem Oq (a b:Str):decide ((bx a:Key)=bx b)=decide (a=b):=by
 by_cases e:a=b
 ·subst e;simp
 ·have h:¬ (bx a:Key)=bx b:=fun q=>e (gc q)
  rw[decide_eq_false h,decide_eq_false e]
theorem Nk (a:Int)(b:Str):decide ((o9 a:Key)=bx b)=false:=decide_eq_false (fun q=>nomatch q)
theorem Qc (a:Str)(b:Int):decide ((bx a:Key)=o9 b)=false:=decide_eq_false (fun q=>nomatch q)
def bJ (prog:Program)(w:World):PySem.KeyKind prog w Key where
 is:=rH
 hash:=Tx w
 inj:=fun v a b ha hb=>by
  rcases cS ha with ⟨i,t,rfl,rfl⟩ | ⟨x,t,rfl,rfl⟩
  ·rcases cS hb with ⟨j,u,rfl,e⟩ | ⟨y,u,rfl,e⟩
   ·injection e with e1 _;rw[e1]
   ·exact nomatch e
  ·rcases cS hb with ⟨j,u,rfl,e⟩ | ⟨y,u,rfl,e⟩
   ·exact nomatch e
   ·injection e with e1 _;rw[e1]
 byValue:=fun k v h=>by
  rcases cS h with ⟨i,t,rfl,rfl⟩ | ⟨x,t,rfl,rfl⟩ <;> rfl
 pyHash:=fun hv h=>by
  rcases cS hv with ⟨i,t,rfl,rfl⟩ | ⟨x,t,rfl,rfl⟩
  ·exact wpAny_pyHash_int h
  ·exact wpAny_pyHash_str h
 eqBool:=fun hu hv h=>by
  rcases cS hu with ⟨i,t,rfl,rfl⟩ | ⟨x,t,rfl,rfl⟩
  ·rcases cS hv with ⟨j,u,rfl,rfl⟩ | ⟨y,u,rfl,rfl⟩
   ·rw[Px] at h;exact wpAny_eqBool_int h
   ·rw[Nk] at h;exact SeqAt.EqAt.int_str i t y u _ _ _ _ h
  ·rcases cS hv with ⟨j,u,rfl,rfl⟩ | ⟨y,u,rfl,rfl⟩
   ·rw[Qc] at h;exact SeqAt.EqAt.str_int x t j u _ _ _ _ h
   ·rw[Oq] at h;exact wpAny_eqBool_str h
 «strs» := fun k x t v h=>by
  rcases cS h with ⟨i,u,rfl,e⟩ | ⟨y,u,rfl,e⟩
  ·exact nomatch e
  ·injection e with e1 _
   subst e1;cases v <;> rfl
theorem xG (prog:Program)(w:World)(i:Int)(t:Tok):(bJ prog w).is (.inl i) (.int i t)=true:=Ea i t
theorem xI (prog:Program)(w:World)(x:Str)(t:Tok):(bJ prog w).is (.inr x) (.str x t)=true:=Cv x t
inductive V where
 | non | bl (b:Bool) | int (i:Int) | str (x:Str) | byt (b:Array UInt8) | flt (b:UInt64) | ref (a:Addr) | ty (n:String)
 deriving DecidableEq
def bF:V->Value->Prop
 | .non,u=>u=Value.none
 | .bl b,u=>u=Value.bool b
 | .int i,u=>∃ t,u=Value.int i t
 | .str x,u=>∃ t,u=Value.str x t
 | .byt b,u=>∃ t,u=Value.bytes b t
 | .flt b,u=>∃ t,u=Value.float b t
 | .ref a,u=>u=Value.ref a
 | .ty n,u=>u=Value.type n
abbrev bN:List V->List Value->Prop:=Paired bF
theorem bN.length {xs:List V}{us:List Value}(r:bN xs us):xs.length=us.length:=Paired.length r
theorem bN.get:∀ {xs:List V} {us:List Value} {i:Nat} {x:V},bN xs us->xs[i]?=some x->∃ u,us[i]?=some u∧bF x u
 | _,_,_,_,.nil,e=>by simp at e
 | _,_,0,_,.cons r _,e=>by simp at e;subst e;exact⟨_,rfl,r⟩
 | _,_,i+1,x,.cons _ t,e=>by
  obtain⟨u,h1,h2⟩:=bN.get (i:=i) (x:=x) t (by simpa using e);exact⟨u,by simpa using h1,h2⟩
theorem bN.append:∀ {xs ys:List V} {us ws:List Value},bN xs us->bN ys ws->bN (xs++ys) (us++ws)
 | _,_,_,_,.nil,s=>s
 | _,_,_,_,.cons r t,s=>.cons r (bN.append t s)
theorem bN.take:∀ {xs:List V} {us:List Value} (n:Nat),bN xs us->bN (xs.take n) (us.take n)
 | _,_,0,_=>.nil
 | _,_,_+1,.nil=>.nil
 | _,_,n+1,.cons r t=>.cons r (bN.take n t)
theorem bN.drop:∀ {xs:List V} {us:List Value} (n:Nat),bN xs us->bN (xs.drop n) (us.drop n)
 | _,_,0,r=>r
 | _,_,_+1,.nil=>.nil
 | _,_,n+1,.cons _ t=>bN.drop n t
def iD:Option V->Option Value->Prop
 | some v,some u=>bF v u
 | none,none=>True
 | _,_=>False
def KV {κ:Type}:List (κ×V)->List (κ×Value)->Prop:=Paired fun (p:κ×V) (q:κ×Value)=>p.1=q.1∧bF p.2 q.2
def kV:Key->V
 | .inl i=>.int i
 | .inr x=>.str x
inductive HO where
 | lst (xs:List V)
 | tup (xs:List V)
 | dK (kvs:List (Key×V)) | dT (kvs:List (List Key×V))
 | set (S:Int->Bool) (n:Nat)
 | ins (C dx:Addr) (fs:List (Str×V))
 | own (x:Addr)
 | xd (fs:List (Str×V))
 | met (f x:Addr)
 | rng (lo hi:Int)
 | frz (o:Obj) (u:HO)
 | tbl (ps:Array Value)
 | ext (φ:Heap->Prop)
abbrev Hp:=Addr->Option HO
def upd (H:Hp)(a:Addr)(o:HO):Hp:=fun b=>if b=a then some o else H b
theorem aB {H:Hp}{a:Addr}{o:HO}:upd H a o a=some o:=by unfold upd;rw[if_pos rfl]
theorem aH {H:Hp}{a b:Addr}{o:HO}(h:b≠a):upd H a o b=H b:=by unfold upd;rw[if_neg h]
theorem uH {H:Hp}{a:Addr}{o u:HO}:upd (upd H a o) a u=upd H a u:=by
 funext b;unfold upd;split <;> rfl
theorem Rj {H:Hp}{a b:Addr}{o u:HO}(h:H a=some o)(h':H b=some u)(d:o≠u):a≠b:=by
 intro e;subst e;rw[h] at h';exact d (a5 h')
theorem aK {H:Hp}{a b:Addr}{o:HO}(h:H a=some o)(h':H b=none):a≠b:=by
 intro e;subst e;rw[h] at h';cases h'
section
variable (P:Program)(w:World)
def cJ (H:Hp)(h:Heap)(a:Addr):HO->Prop
 | .lst xs=>xs.length<=sizeLine∧∃ (its:List Value) (n:Nat),bN xs its∧h.get? a=some { cls:=.type "list",data:=.seq its.toArray n }
 | .tup xs=>xs.length<=sizeLine∧∃ its:List Value,bN xs its∧IsTup h a its.toArray
 | .dK kvs=>kvs.length<=sizeLine∧(a==sysModules)=false∧∃ vs,KV kvs vs∧h.DictOf (bJ P w) a vs
 | .dT kvs=>kvs.length<=sizeLine∧(a==sysModules)=false∧∃ xs:List (List Key×Addr×Value),
  Paired (fun (p:List Key×V) (q:List Key×Addr×Value)=>p.1=q.1∧H q.2.1=some (.tup (p.1.map kV))∧bF p.2 q.2.2) kvs xs ∧
  ∃ o es ep,h.get? a=some o∧o.ExactDict∧o.data = .dict es ep∧es.toList=xs.map (entryOfKey (tupleKind (bJ P w)))∧(xs.map (·.1)).Nodup
 | .set S n=>h.SetOf (intKind P w) a S n
 | .ins C dx fs=>H dx=some (.own a)∧fs.length<=1000∧dx≠a∧h.get? a=some (gj C dx) ∧
  ∃ mA,h.Ns1 dx mA∧(∀ f,iD (fs.lookup f) (mA f))∧qd mA (fs.map (·.1))
 | .own _=>∃ o,h.get? a=some o
 | .xd fs=>∃ mA,h.Ns1 a mA∧∀ f,iD (fs.lookup f) (mA f)
 | .rng lo hi=>∃ t u v,h.get? a=some { cls:=.type "range",data:=.fields #[.int lo t,.int hi u,.int 1 v] }
 | .frz o u=>h.get? a=some o∧cJ H h a u
 | .tbl ps=>h.get? a=some { cls:=.none,data:=.fields ps }
 | .met f x=>h.get? a=some (me (.ref f) (.ref x))
 | .ext φ=>φ h∧(∃ o,h.get? a=some o)∧∀ h1 h2:Heap,φ h1->(∀ o,h1.get? a=some o->h2.get? a=some o)->φ h2
def HOk (H:Hp)(h:Heap):Prop:=∀ a o,H a=some o->cJ P w H h a o
end
section
variable {P:Program}{w:World}{H H':Hp}{h h':Heap}{a:Addr}{o:HO}
theorem cJ.lt (x:cJ P w H h a o):a<h.objs.size:=by
 cases o with
 | lst xs=>obtain⟨_,_,_,_,e⟩:=x;exact Heap.lt_size e
 | tup xs=>obtain⟨_,_,_,p⟩:=x;exact p.lt
 | dK kvs=>obtain⟨_,_,_,_,o,_,_,e,_⟩:=x;exact Heap.lt_size e
 | dT kvs=>obtain⟨_,_,_,_,o,_,_,e,_⟩:=x;exact Heap.lt_size e
 | set S n=>obtain⟨o,_,_,_,e,_⟩:=x;exact Heap.lt_size e
 | ins C dx fs=>obtain⟨_,_,_,e,_⟩:=x;exact Heap.lt_size e
 | own y=>obtain⟨_,e⟩:=x;exact Heap.lt_size e
 | xd fs=>obtain⟨_,⟨_,_,_,e,_⟩,_⟩:=x;exact Heap.lt_size e
 | rng lo hi=>obtain⟨_,_,_,e⟩:=x;exact Heap.lt_size e
 | frz ob u=>obtain⟨e,_⟩:=x;exact Heap.lt_size e
 | tbl ps=>exact Heap.lt_size (show h.get? a=some _ from x)
 | met f y=>exact Heap.lt_size (show h.get? a=some _ from x)
 | ext φ=>obtain⟨_,⟨_,e⟩,_⟩:=x;exact Heap.lt_size e
theorem Paired.mapP {α β:Type}{F G:α->β->Prop}:∀ {l₁:List α} {l₂:List β},Paired F l₁ l₂->(∀ a b,F a b->G a b)->Paired G l₁ l₂
 | _,_,.nil,_=>.nil
 | _,_,.cons r t,f=>.cons (f _ _ r) (Paired.mapP t f)
theorem cJ.stay (x:cJ P w H h a o)(k:∀ b u,(b=a∨H b=some (.own a))->h.get? b=some u->h'.get? b=some u)
  (ho:∀ b,H b=some (.own a)->H' b=some (.own a)) (ht:∀ b xs,H b=some (.tup xs)->H' b=some (.tup xs)):cJ P w H' h' a o:=by
 induction o with
 | lst xs=>obtain⟨z,its,n,r,e⟩:=x;exact⟨z,its,n,r,k _ _ (.inl rfl) e⟩
 | tup xs=>obtain⟨z,its,r,ob,e,c⟩:=x;exact⟨z,its,r,ob,k _ _ (.inl rfl) e,c⟩
 | dK kvs=>obtain⟨z,y,vs,r,ob,es,ep,e,c⟩:=x;exact⟨z,y,vs,r,ob,es,ep,k _ _ (.inl rfl) e,c⟩
 | dT kvs =>
  obtain⟨z,y,xs,r,ob,es,ep,e,c⟩:=x;exact⟨z,y,xs,Paired.mapP r fun p q z=>⟨z.1,ht _ _ z.2.1,z.2.2⟩,ob,es,ep,k _ _ (.inl rfl) e,c⟩
 | set S n=>obtain⟨ob,es,ep,t,e,c⟩:=x;exact⟨ob,es,ep,t,k _ _ (.inl rfl) e,c⟩
 | ins C dx fs =>
  obtain⟨d,z,ne,e,mA,⟨od,es,ep,e2,c⟩,r⟩:=x;exact⟨ho _ d,z,ne,k _ _ (.inl rfl) e,mA,⟨od,es,ep,k _ _ (.inr d) e2,c⟩,r⟩
 | own y=>obtain⟨ob,e⟩:=x;exact⟨ob,k _ _ (.inl rfl) e⟩
 | xd fs=>obtain⟨mA,⟨od,es,ep,e,c⟩,r⟩:=x;exact⟨mA,⟨od,es,ep,k _ _ (.inl rfl) e,c⟩,r⟩
 | rng lo hi=>obtain⟨t,u,v,e⟩:=x;exact⟨t,u,v,k _ _ (.inl rfl) e⟩
 | frz ob u ih=>obtain⟨e,q⟩:=x;exact⟨k _ _ (.inl rfl) e,ih q⟩
 | tbl ps =>
  have e:h.get? a=some { cls:=.none,data:=.fields ps }:=x;show h'.get? a=some { cls:=.none,data:=.fields ps };exact k a _ (.inl rfl) e
 | met f y =>
  have e:h.get? a=some (me (.ref f) (.ref y)):=x;show h'.get? a=some (me (.ref f) (.ref y));exact k a _ (.inl rfl) e
 | ext φ=>obtain⟨p,⟨o,e⟩,st⟩:=x;exact⟨st _ _ p fun o q=>k _ _ (.inl rfl) q,⟨o,k _ _ (.inl rfl) e⟩,st⟩
theorem HOk.lt (x:HOk P w H h)(e:H a=some o):a<h.objs.size:=(x a o e).lt
theorem HOk.fresh (x:HOk P w H h)(e:h.objs.size<=a):H a=none:=by
 cases q:H a with
 | none=>rfl
 | some u=>exact absurd (bj (x.lt q) e) (dz _)
theorem HOk.kept (x:HOk P w H h)(k:∀ b u,h.get? b=some u->h'.get? b=some u):HOk P w H h':=fun a o e =>
 (x a o e).stay (fun b u _ q=>k b u q) (fun _ q=>q) fun _ _ q=>q
theorem HOk.laid (x:HOk P w H h)(k:∀ b u,h.get? b=some u->h'.get? b=some u)(hp:h.objs.size<=a)(new:cJ P w (upd H a o) h' a o):HOk P w (upd H a o) h':=fun b u e=>by
 have hn:=x.fresh hp;by_cases hb:b=a
 ·subst hb;rw[aB] at e;cases e;exact new
 ·rw[aH hb] at e
  exact (x b u e).stay (fun c v _ q=>k c v q) (fun c q=>by rw[aH (aK q hn)];exact q) fun c xs q=>by rw[aH (aK q hn)];exact q
end
def Rd (H:Hp)(a:Addr)(u:HO):Prop:=H a=some u∨∃ o,H a=some (.frz o u)
theorem Rd.ok {P:Program}{w:World}{H:Hp}{h:Heap}{a:Addr}{u:HO}(r:Rd H a u)(x:HOk P w H h):cJ P w H h a u:=by
 rcases r with r | ⟨o,r⟩
 ·exact x a u r
 ·obtain⟨_,q⟩:=x a _ r
  exact q
def Mut:Option HO->Prop
 | some (.lst _)=>True
 | some (.dK _)=>True
 | some (.dT _)=>True
 | some (.set _ _)=>True
 | some (.ins _ _ _)=>True
 | some (.ext _)=>True
 | _=>False
section
variable {P:Program}{w:World}{H:Hp}{h h':Heap}{x e:Addr}{o':HO}
theorem HOk.write (ok:HOk P w H h)(mu:Mut (H x))(he:e=x∨H e=some (.own x))(k:∀ b u,b≠e->h.get? b=some u->h'.get? b=some u)(heo:∃ u,h'.get? e=some u)
  (new:cJ P w (upd H x o') h' x o'):HOk P w (upd H x o') h':=fun b u q=>by
 have nown:∀ c y,H c=some (.own y)->c≠x:=fun c y r z=>by subst z;rw[r] at mu;exact mu
 have ntup:∀ c xs,H c=some (.tup xs)->c≠x:=fun c xs r z=>by subst z;rw[r] at mu;exact mu
 by_cases hb:b=x
 ·subst hb;rw[aB] at q;cases q;exact new
 ·rw[aH hb] at q
  by_cases hbe:b=e
  ·have q':H b=some (.own x):=by
    rcases he with z | z
    ·exact absurd (hbe.trans z) hb
    ·rw[hbe];exact z
   rw[q] at q';cases q';obtain⟨v,hv⟩:=heo;exact⟨v,by rw[hbe];exact hv⟩
  ·refine (ok b u q).stay (fun c v hc r=>k c v ?_ r) (fun c r=>by rw[aH (nown c b r)];exact r) fun c xs r=>by rw[aH (ntup c xs r)];exact r
   rcases hc with rfl | hc
   ·exact hbe
   ·rintro rfl
    rcases he with z | z
    ·exact nown c b hc z
    ·rw[hc] at z;cases z;exact hb rfl
end
structure Un (fs ex:List Addr)(H H':Hp)(h h':Heap):Prop where
 keep:∀ b o,h.get? b=some o->H b=none->b∉fs->b∉ex->h'.get? b=some o
 slot:∀ b o,h.get? b=some o->H b=none->b∈fs->b∉ex->∃ sl,h'.get? b=some { o with slots:=sl }
 free:∀ b o,h.get? b=some o->H b=none->b∉ex->H' b=none
 there:∀ b o,h.get? b=some o->b∉ex->∃ o',h'.get? b=some o'
 tups:∀ b xs,H b=some (.tup xs)->H' b=some (.tup xs)
 frzs:∀ b o u,H b=some (.frz o u)->H' b=some (.frz o u)
 tbls:∀ b ps,H b=some (.tbl ps)->∃ more,H' b=some (.tbl (ps++more))
section
variable {fs fs' ex ex':List Addr}{H H1 H2:Hp}{h h1 h2 h':Heap}{a x e:Addr}{o:HO}
theorem Un.any (u:Un fs ex H H1 h h1){b:Addr}{ob:Obj}(q:h.get? b=some ob)(n:H b=none)(hx:b∉ex):∃ sl,h1.get? b=some { ob with slots:=sl }:=by
 by_cases hb:b∈fs
 ·exact u.slot b ob q n hb hx
 ·exact⟨ob.slots,u.keep b ob q n hb hx⟩
theorem Un.kept (k:∀ b u,h.get? b=some u->h'.get? b=some u):Un fs ex H H h h' :=
 ⟨fun b ob q _ _ _=>k b ob q,fun b ob q _ _ _=>⟨ob.slots,k b ob q⟩,fun _ _ _ n _=>n,fun b ob q _=>⟨ob,k b ob q⟩,fun _ _ q=>q,fun _ _ _ q=>q,fun _ ps q=>⟨#[],by rw[q];simp⟩⟩
theorem Un.refl:Un fs ex H H h h:=Un.kept fun _ _ q=>q
theorem Un.laid (k:∀ b u,h.get? b=some u->h'.get? b=some u)(hp:h.objs.size<=a)(hn:H a=none):Un fs ex H (upd H a o) h h' where
 keep:=fun b u q _ _ _=>k b u q
 slot:=fun b u q _ _ _=>⟨u.slots,k b u q⟩
 free:=fun b u q n _=>by rw[aH (ay (bj (Heap.lt_size q) hp))];exact n
 there:=fun b u q _=>⟨u,k b u q⟩
 tups:=fun b xs q=>by rw[aH (aK q hn)];exact q
 frzs:=fun b u xs q=>by rw[aH (aK q hn)];exact q
 tbls:=fun b ps q=>⟨#[],by rw[aH (aK q hn),q];simp⟩
theorem Un.write (mu:Mut (H x))(he:e=x∨H e=some (.own x))(k:∀ b u,b≠e->h.get? b=some u->h'.get? b=some u)(heo:∃ u,h'.get? e=some u):Un fs ex H (upd H x o) h h':=by
 have hx:∀ b,H b=none->b≠x:=fun b n z=>by subst z;rw[n] at mu;exact mu
 have hb:∀ b,H b=none->b≠e:=fun b n z=>by
  subst z;rcases he with r | r
  ·exact hx b n r
  ·rw[n] at r;cases r
 have hm:∀ b u,H b=some u->¬ Mut (some u)->b≠x:=fun b u q nm z=>by subst z;rw[q] at mu;exact nm mu
 refine⟨fun b u q n _ _=>k b u (hb b n) q,fun b u q n _ _=>⟨u.slots,k b u (hb b n) q⟩,fun b u q n _=>by rw[aH (hx b n)];exact n,fun b u q _=>?_,
  fun b xs q=>by rw[aH (hm b _ q fun z=>z)];exact q,fun b u xs q=>by rw[aH (hm b _ q fun z=>z)];exact q,fun b ps q=>⟨#[],by rw[aH (hm b _ q fun z=>z),q];simp⟩⟩
 by_cases hbe:b=e
 ·subst hbe;exact heo
 ·exact⟨u,k b u hbe q⟩
end
def trk (h:Heap)(H:Hp):List Addr:=(cu h.objs.size).filter fun a=>(H a).isSome
def uD (h:Heap)(H:Hp):Heap:=rf h (trk h H)
theorem Dw (h:Heap)(H:Hp):(uD h H).objs.size=h.objs.size:=PySem.W.hideAll_size _ _
theorem Fv {h:Heap}{H:Hp}{b:Addr}{o:Obj}(e:h.get? b=some o)(n:H b=none):(uD h H).get? b=some o :=
 jj _ e fun hm=>by
  have q:(H b).isSome=true:=(cf.mp hm).2;rw[n] at q;simp at q
theorem Lo {h:Heap}{H:Hp}{b:Addr}{o:Obj}(e:(uD h H).get? b=some o):h.get? b=some o∧H b=none:=by
 have e':h.get? b=some o:=pj (trk h H) e;refine⟨e',?_⟩
 cases q:H b with
 | none=>rfl
 | some x =>
  have hm:b∈trk h H:=cf.mpr ⟨de.mpr (Heap.lt_size e'),by simp[q]⟩;have z:(uD h H).get? b=none:=PySem.W.hideAll_none (trk h H) hm;rw[z] at e;cases e
def Kj (g h:Heap)(L:Addr):List (Addr×Obj):=(cu h.objs.size).filterMap fun a=>if a=L∨(g.get? a).isSome=true then none else (h.get? a).map fun o=>(a,o)
def rest (g h:Heap)(L d:Addr):List (Addr×Obj):=(Kj g h L).filter fun p=>decide (p.1≠d)
structure Mod (K:ac)(mg:Str->Option Value)(base:Heap):Prop where
 kin:K.In base
 glob:base.Ns mainGlobals mg
 blt:∃ mb,base.Ns builtinsNs mb∧∀ x:Str,x ≠ "__name__" -> mb x=bootBuiltins x
 nolimit:base.NoLimit
structure Cx where
 prog:Program
 w:World
 K:ac
 mg:Str->Option Value
 base:Heap
 A:Around
 N:List Str
 s₀:Shared
 H₀:Hp
 env:Env
 outer:List Env
 stack:List Env
 ex:List Addr
 fn:Str->Bool
 calm:Bool
 pn:List (Addr×Obj)
 xe:Value->Shared->Prop
def frs (l:List Env):List Addr:=l.filterMap (·.frame)
abbrev Cx.fs (X:Cx):List Addr:=frs X.outer
def Vis (sc:Scope)(x:Str):Prop:=sc.names.lookup x=some .local∨sc.names.lookup x=some .cell∨sc.names.lookup x=some .free
def Loc (sc:Scope)(x:Str):Prop:=sc.names.lookup x=some .local∨sc.names.lookup x=some .cell
def Th (env:Env)(h:Heap)(m:Str->Option Value)(x:Str)(u:Value):Prop :=
 (env.kindOf x=some .local∧m x=some u)∨((env.kindOf x=some .cell∨env.kindOf x=some .free)∧∃ c,env.cells.lookup x=some c∧h.IsCell c (some u))
structure Cx.Ok (X:Cx):Prop where
 mod:Mod X.K X.mg X.base
 kind:X.env.scope.kind = .function
 glob:X.env.globals=mainGlobals
 blt:X.env.builtins=builtinsNs
 above:X.s₀.heap.objs.size<=X.env.locals
 inj:∀ x y c,X.env.cells.lookup x=some c->X.env.cells.lookup y=some c->x=y
 has:∀ x,(X.env.kindOf x=some .cell∨X.env.kindOf x=some .free)->∃ c,X.env.cells.lookup x=some c
 cab:∀ x c,X.fn x=true->X.env.cells.lookup x=some c->X.s₀.heap.objs.size<=c
 hd:X.calm=true->X.A.handled=none
 frames:X.A.frames=some X.stack
 stk:X.stack=X.outer∨(X.stack=X.env::X.outer∧X.env.frame=some X.env.locals)
 exf:∀ b∈X.ex,b≠X.env.locals∧∀ x c,X.env.cells.lookup x=some c->c≠b
 bs:∀ b o,X.base.get? b=some o->X.s₀.heap.get? b=some o∧X.H₀ b=none
 bsz:X.base.objs.size<=X.s₀.heap.objs.size
 noex:∀ b o,X.base.get? b=some o->b∉X.ex
 exfs:∀ b∈X.ex,b∉X.fs
 funs:X.s₀.heap.FunFrames X.base X.outer
 frf:∀ b∈X.fs,X.H₀ b=none
structure Inv (X:Cx)(pins:List (Addr×Obj))(σ:List (Option V))(H:Hp)(s:Shared):Prop where
 ok:X.Ok
 os:s.os=X.s₀.os
 bare:AllBare s.gens
 base:Un X.fs X.ex X.H₀ H X.s₀.heap s.heap
 loc:∃ m,s.heap.Ns X.env.locals m∧∀ (i:Nat) (x:Str) (v:V),X.N[i]?=some x->σ[i]?=some (some v)->Vis X.env.scope x->∃ u,bF v u∧Th X.env s.heap m x u
 cell:∀ x c,X.env.cells.lookup x=some c->∃ v,s.heap.IsCell c v
 free:H X.env.locals=none
 freeC:∀ x c,X.env.cells.lookup x=some c->H c=none
 pin:∀ p∈X.pn++pins,s.heap.get? p.1=some p.2∧H p.1=none∧p.1≠X.env.locals∧p.1∉X.fs∧∀ v,p.2.data≠.cell v
 hok:HOk X.prog X.w H s.heap
 len:σ.length=X.N.length
section
variable {X:Cx}{pins:List (Addr×Obj)}{σ:List (Option V)}{H H':Hp}{s:Shared}{h':Heap}
theorem Cx.Ok.nofr (ok:X.Ok){b:Addr}{o:Obj}(e:X.base.get? b=some o):b∉X.fs:=fun hb=>by
 have:=(ok.funs.mem hb).1
 rw[e] at this;cases this
theorem Inv.bs (I:Inv X pins σ H s):∀ b o,X.base.get? b=some o->s.heap.get? b=some o∧H b=none:=fun b o e =>
 ⟨I.base.keep b o (I.ok.bs b o e).1 (I.ok.bs b o e).2 (I.ok.nofr e) (I.ok.noex b o e),I.base.free b o (I.ok.bs b o e).1 (I.ok.bs b o e).2 (I.ok.noex b o e)⟩
theorem Inv.bk (I:Inv X pins σ H s):∀ b o,X.base.get? b=some o->s.heap.get? b=some o:=fun b o e=>(I.bs b o e).1
theorem Inv.mod (I:Inv X pins σ H s):Mod X.K X.mg X.base:=I.ok.mod
theorem Inv.kIn (I:Inv X pins σ H s):X.K.In s.heap:=I.ok.mod.kin.keeps I.bk
theorem Inv.lt (I:Inv X pins σ H s):X.env.locals<s.heap.objs.size:=let ⟨_,hn,_⟩:=I.loc;hn.lt
theorem Inv.sz (I:Inv X pins σ H s):X.s₀.heap.objs.size<=s.heap.objs.size:=a7 I.ok.above (dv I.lt)
theorem Inv.nofs (I:Inv X pins σ H s){a:Addr}(h:s.heap.objs.size<=a):a∉X.fs:=fun hb=>by
 obtain⟨_,o,ho,_⟩:=I.ok.funs.mem hb;exact absurd (bj (Heap.lt_size ho) (a7 I.sz h)) (dz _)
theorem Inv.cne (I:Inv X pins σ H s):∀ x c,X.env.cells.lookup x=some c->c≠X.env.locals:=fun x c e z=>by
 obtain⟨v,o,ho,hd⟩:=I.cell x c e;obtain⟨m,⟨o',es,ep,ho',hd',_⟩,_⟩:=I.loc;rw[z,ho'] at ho;cases ho;rw[hd'] at hd;cases hd
theorem Inv.funs (I:Inv X pins σ H s):s.heap.FunFrames X.base X.outer:=by
 have all:∀ (l:List Env),(∀ b∈frs l,b∈X.fs)->X.s₀.heap.FunFrames X.base l->s.heap.FunFrames X.base l:=by
  intro l
  induction l with
  | nil=>intro _ _;trivial
  | cons env r ih =>
   intro hs hl;obtain⟨hk,⟨L,o,hf,hn,ho,hd⟩,hr⟩:=hl;have hL:L∈X.fs:=hs L (by unfold frs;rw[gl,hf];exact am);obtain⟨sl,e⟩:=I.base.slot L o ho (I.ok.frf L hL) hL fun z=>I.ok.exfs L z hL
   exact⟨hk,⟨L,_,hf,hn,e,hd⟩,ih (fun b hb=>hs b (by unfold frs;rw[gl,hf];exact ai _ hb)) hr⟩
 exact all X.outer (fun _ hb=>hb) I.ok.funs
theorem Inv.stack (I:Inv X pins σ H s):s.heap.FunFrames X.base X.stack:=by
 rcases I.ok.stk with e | ⟨e,hf⟩
 ·rw[e];exact I.funs
 ·rw[e]
  obtain⟨m,hn,_⟩:=I.loc;refine .cons (by rw[I.ok.kind];decide) hf hn ?_ I.funs;exact Heap.get?_none_of_le (a7 I.ok.bsz I.ok.above)
theorem Inv.stkSub (I:Inv X pins σ H s):∀ b∈frs X.stack,b∈X.env.locals::X.fs:=fun b hb=>by
 rcases I.ok.stk with e | ⟨e,hf⟩
 ·rw[e] at hb;exact ai _ hb
 ·rw[e] at hb
  unfold frs at hb;rw[gl,hf] at hb;exact hb
theorem Inv.stkFree (I:Inv X pins σ H s):∀ b∈frs X.stack,H b=none:=fun b hb=>by
 rcases au.mp (I.stkSub b hb) with e | hb
 ·rw[e];exact I.free
 ·obtain⟨_,o,ho,_⟩:=I.ok.funs.mem hb
  exact I.base.free b o ho (I.ok.frf b hb) fun z=>I.ok.exfs b z hb
theorem Inv.step {g':Array GenState}{t':Nat}{d':Drawn}{ch:List Addr}(I:Inv X pins σ H s)
  (hch:∀ b∈ch,(b∈X.ex∨X.s₀.heap.objs.size<=b)∧b≠X.env.locals∧(∀ x c,X.env.cells.lookup x=some c->c≠b)∧∀ p∈X.pn++pins,p.1≠b)
  (keep:∀ b o,b≠X.env.locals->b∉X.fs->b∉ch->s.heap.get? b=some o->H b=none->h'.get? b=some o)
  (slot:∀ b o,b≠X.env.locals->b∈X.fs->b∉ch->s.heap.get? b=some o->H b=none->∃ sl,h'.get? b=some { o with slots:=sl }) (free:∀ b o,b∉ch->s.heap.get? b=some o->H b=none->H' b=none)
  (there:∀ b o,b∉ch->s.heap.get? b=some o->∃ o',h'.get? b=some o')
  (tups:∀ b xs,H b=some (.tup xs)->H' b=some (.tup xs)) (frzs:∀ b o u,H b=some (.frz o u)->H' b=some (.frz o u)) (tbls:∀ b ps,H b=some (.tbl ps)->∃ more,H' b=some (.tbl (ps++more)))
  (ns:∀ m,s.heap.Ns X.env.locals m->h'.Ns X.env.locals m) (hok:HOk X.prog X.w H' h') (hg:AllBare g') :
  Inv X pins σ H' { s with heap:=h',gens:=g',drawn:=d',toks:=t' }:=by
 have neL:∀ b o,X.s₀.heap.get? b=some o->b≠X.env.locals:=fun b o e=>ay (bj (Heap.lt_size e) I.ok.above)
 have neC:∀ b o,X.s₀.heap.get? b=some o->b∉X.ex->b∉ch:=fun b o e hx hb=>by
  rcases (hch b hb).1 with z | z
  ·exact hx z
  ·exact absurd (bj (Heap.lt_size e) z) (dz _)
 have cellK:∀ x c,X.env.cells.lookup x=some c->∀ v,s.heap.IsCell c v->h'.IsCell c v:=fun x c e v ⟨o,ho,hd⟩=>by
  have nch:c∉ch:=fun z=>(hch c z).2.2.1 x c e rfl
  by_cases hc:c∈X.fs
  ·obtain⟨sl,q⟩:=slot c o (I.cne x c e) hc nch ho (I.freeC x c e)
   exact⟨_,q,hd⟩
  ·exact⟨o,keep c o (I.cne x c e) hc nch ho (I.freeC x c e),hd⟩
 refine⟨I.ok,I.os,hg,⟨fun b o e n hb hx=>?_,fun b o e n hb hx=>?_,fun b o e n hx=>?_,fun b o e hx=>?_,fun b xs e=>tups b xs (I.base.tups b xs e),fun b o xs e=>frzs b o xs (I.base.frzs b o xs e),fun b ps e=>?_⟩,?_,fun x c e=>?_,?_,fun x c e=>?_,fun p hp=>?_,hok,I.len⟩
 ·exact keep b o (neL b o e) hb (neC b o e hx) (I.base.keep b o e n hb hx) (I.base.free b o e n hx)
 ·obtain⟨sl,e1⟩:=I.base.slot b o e n hb hx
  obtain⟨sl',e2⟩:=slot b _ (neL b o e) hb (neC b o e hx) e1 (I.base.free b o e n hx);exact⟨sl',e2⟩
 ·obtain⟨o',e1⟩:=I.base.there b o e hx
  exact free b o' (neC b o e hx) e1 (I.base.free b o e n hx)
 ·obtain⟨o',e1⟩:=I.base.there b o e hx
  exact there b o' (neC b o e hx) e1
 ·obtain⟨m1,e1⟩:=I.base.tbls b ps e
  obtain⟨m2,e2⟩:=tbls b _ e1;exact⟨m1++m2,by rw[e2,lr]⟩
 ·obtain⟨m,hn,hl⟩:=I.loc
  refine⟨m,ns m hn,fun i x v e1 e2 e3=>?_⟩;obtain⟨u,r,l⟩:=hl i x v e1 e2 e3;refine⟨u,r,?_⟩;rcases l with l | ⟨k,c,e,z⟩
  ·exact .inl l
  ·exact .inr ⟨k,c,e,cellK x c e _ z⟩
 ·obtain⟨v,z⟩:=I.cell x c e
  exact⟨v,cellK x c e v z⟩
 ·obtain⟨m,⟨o,_,_,ho,_⟩,_⟩:=I.loc
  exact free _ o (fun z=>(hch _ z).2.1 rfl) ho I.free
 ·obtain⟨v,o,ho,hd⟩:=I.cell x c e
  exact free c o (fun z=>(hch c z).2.2.1 x c e rfl) ho (I.freeC x c e)
 ·obtain⟨e,n,ne,nf,d⟩:=I.pin p hp
  have nch:p.1∉ch:=fun z=>(hch p.1 z).2.2.2 p hp rfl
  exact⟨keep p.1 p.2 ne nf nch e n,free p.1 p.2 nch e n,ne,nf,d⟩
theorem Inv.un {t':Nat}(I:Inv X pins σ H s)(u:Un X.fs [] H H' s.heap h')(hok:HOk X.prog X.w H' h'):Inv X pins σ H' { s with heap:=h',toks:=t' }:=by
 obtain⟨m,⟨o,es,ep,ho,r⟩,_⟩:=id I.loc;obtain⟨sl,hL⟩:=u.any ho I.free (by simp);exact I.step (g':=s.gens) (d':=s.drawn) (ch:=[]) (fun _ z=>nomatch z) (fun b o _ hb _ e n=>u.keep b o e n hb (by simp)) (fun b o _ hb _ e n=>u.slot b o e n hb (by simp)) (fun b o _ e n=>u.free b o e n (by simp)) (fun b o _ e=>u.there b o e (by simp)) u.tups u.frzs u.tbls (fun m' hm=>by
  obtain⟨o',es',ep',ho',r'⟩:=hm;rw[ho] at ho';cases ho';exact⟨_,es',ep',hL,r'⟩) hok I.bare
theorem Inv.call {g':Array GenState}{t':Nat}{d':Drawn}{ch:List Addr}(I:Inv X pins σ H s)(u:Un (frs X.stack) ch H H' s.heap h')(hok:HOk X.prog X.w H' h')(hg:AllBare g')
  (hch:∀ b∈ch,(b∈X.ex∨X.s₀.heap.objs.size<=b)∧b≠X.env.locals∧(∀ x c,X.env.cells.lookup x=some c->c≠b)∧∀ p∈X.pn++pins,p.1≠b) :
  Inv X pins σ H' { s with heap:=h',gens:=g',drawn:=d',toks:=t' }:=by
 obtain⟨m,⟨o,es,ep,ho,r⟩,_⟩:=id I.loc;obtain⟨sl,hL⟩:=u.any ho I.free fun z=>(hch _ z).2.1 rfl
 exact I.step (ch:=ch) hch (fun b o hL hb hc e n=>u.keep b o e n (fun z=>(au.mp (I.stkSub b z)).elim hL hb) hc) (fun b o _ _ hc e n=>u.any e n hc) (fun b o hc e n=>u.free b o e n hc) (fun b o hc e=>u.there b o e hc) u.tups u.frzs u.tbls (fun m' hm=>by
  obtain⟨o',es',ep',ho',r'⟩:=hm;rw[ho] at ho';cases ho';exact⟨_,es',ep',hL,r'⟩) hok hg
theorem Inv.turned {t':Nat}{it:Addr}(I:Inv X pins σ H s)(k:∀ b o,b≠it->s.heap.get? b=some o->h'.get? b=some o)(hn:H it=none)(hL:it≠X.env.locals)
  (h1:it∈X.ex∨X.s₀.heap.objs.size<=it) (h2:∀ x c,X.env.cells.lookup x=some c->c≠it) (h3:∀ p∈X.pn++pins,p.1≠it):Inv X pins σ H { s with heap:=h',toks:=t' }:=by
 have nit:∀ b u,H b=some u->b≠it:=fun b u e z=>by rw[z,hn] at e;cases e
 refine I.step (g':=s.gens) (d':=s.drawn) (ch:=[it]) (fun b hb=>?_) (fun b o _ _ hc e _=>k b o (fun z=>hc (by simp[z])) e) (fun b o _ _ hc e _=>⟨o.slots,k b o (fun z=>hc (by simp[z])) e⟩) (fun _ _ _ _ n=>n)
  (fun b o hc e=>⟨o,k b o (fun z=>hc (by simp[z])) e⟩) (fun _ _ e=>e) (fun _ _ _ e=>e) (fun b ps e=>⟨#[],by rw[e];simp⟩) (fun m hm=>?_) (fun b u e=>?_) I.bare
 ·have e:b=it:=by simpa using hb
  subst e;exact⟨h1,hL,h2,h3⟩
 ·obtain⟨o,es,ep,ho,r⟩:=hm
  exact⟨o,es,ep,k _ o (Ne.symm hL) ho,r⟩
 ·refine (I.hok b u e).stay (fun c v hc q=>k c v ?_ q) (fun _ q=>q) fun _ _ q=>q
  rcases hc with z | z
  ·rw[z];exact nit b u e
  ·exact nit c _ z
theorem Inv.tok (I:Inv X pins σ H s)(t:Nat):Inv X pins σ H { s with toks:=t }:=I.un (h':=s.heap) (t':=t) Un.refl I.hok
theorem Inv.kept {t':Nat}(I:Inv X pins σ H s)(k:∀ b u,s.heap.get? b=some u->h'.get? b=some u):Inv X pins σ H { s with heap:=h',toks:=t' }:=I.un (Un.kept k) (I.hok.kept k)
theorem Inv.laid {a:Addr}{o:HO}{t':Nat}(I:Inv X pins σ H s)(k:∀ b u,s.heap.get? b=some u->h'.get? b=some u)(hp:s.heap.objs.size<=a)(new:cJ X.prog X.w (upd H a o) h' a o) :
 Inv X pins σ (upd H a o) { s with heap:=h',toks:=t' }:=I.un (Un.laid k hp (I.hok.fresh hp)) (I.hok.laid k hp new)
theorem Inv.write {x e:Addr}{o:HO}{t':Nat}(I:Inv X pins σ H s)(mu:Mut (H x))(he:e=x∨H e=some (.own x))(k:∀ b u,b≠e->s.heap.get? b=some u->h'.get? b=some u)(heo:∃ u,h'.get? e=some u)
 (new:cJ X.prog X.w (upd H x o) h' x o):Inv X pins σ (upd H x o) { s with heap:=h',toks:=t' }:=I.un (Un.write mu he k heo) (I.hok.write mu he k heo new)
theorem Inv.pins_of {pins':List (Addr×Obj)}(I:Inv X pins σ H s)(h:∀ p∈pins',s.heap.get? p.1=some p.2∧H p.1=none∧p.1≠X.env.locals∧p.1∉X.fs∧∀ v,p.2.data≠.cell v):Inv X pins' σ H s :=
 ⟨I.ok,I.os,I.bare,I.base,I.loc,I.cell,I.free,I.freeC,fun p hp=>(a6.mp hp).elim (fun z=>I.pin p (cn _ z)) (h p),I.hok,I.len⟩
theorem xA {N:List Str}(hN:N.Nodup){i j:Nat}{x:Str}(a:N[i]?=some x)(b:N[j]?=some x):i=j:=by
 obtain⟨h1,e1⟩:=al.mp a;obtain⟨h2,e2⟩:=al.mp b;exact (List.getElem_inj hN).mp (e1.trans e2.symm)
theorem sQ {M:Model}{A:Around}{E:Value->Shared->Prop}{i:Nat}{x:Str}{v:V}{u:Value}{Q:Unit->Shared->Prop}(I:Inv X pins σ H s)(hN:X.N.Nodup)(hi:X.N[i]?=some x)(hx:Loc X.env.scope x)(r:bF v u)
  (h:∀ s',Inv X pins (σ.set i (some v)) H s'->(∃ a,Heap.SameBut a s.heap s'.heap∧(a=X.env.locals∨X.env.cells.lookup x=some a))->Q () s') (hf:X.fn x=true∨X.env.scope.names.lookup x=some .local:=by first | exact .inl rfl | exact .inr rfl | assumption):wpAny M A (storeName X.env x u) Q E s:=by
 obtain⟨m,hn,hl⟩:=id I.loc;have hcls:(X.env.scope.kind == .class||(X.env.scope.kind == .module&&X.env.locals != X.env.globals))=false:=by rw[I.ok.kind];rfl
 have hiσ:i<σ.length:=by rw[I.len];exact (al.mp hi).1
 have cne:=I.cne;have tracked:∀ {a:Addr} {h':Heap},(∃ o,s.heap.get? a=some o∧H a=none)->Heap.SameBut a s.heap h'->HOk X.prog X.w H h':=fun {a h'} ha hs b ob e=>by
  obtain⟨_,_,hfree⟩:=ha;refine (I.hok b ob e).stay (fun c w' hc q=>(hs.2 c ?_).trans q) (fun _ q=>q) fun _ _ q=>q
  rintro rfl;rcases hc with rfl | hc
  ·rw[hfree] at e;cases e
  ·rw[hfree] at hc;cases hc
 rcases hx with hk | hk
 ·refine wpAny_storeName_local hk hn (fun h' hn' hs=>?_) hcls
  obtain⟨oL,_,_,hoL,_⟩:=id hn;refine h _ ⟨I.ok,I.os,I.bare,⟨fun b o e n hb hx=>?_,fun b o e n hb hx=>?_,I.base.free,fun b o e hx=>?_,I.base.tups,I.base.frzs,I.base.tbls⟩,⟨_,hn',fun j y v' e1 e2 e3=>?_⟩,fun y c e=>?_,I.free,I.freeC,fun p hp=>?_,tracked ⟨oL,hoL,I.free⟩ hs,by simpa using I.len⟩ ⟨_,hs,.inl rfl⟩
  ·exact (hs.2 b (ay (bj (Heap.lt_size e) I.ok.above))).trans (I.base.keep b o e n hb hx)
  ·obtain⟨sl,e1⟩:=I.base.slot b o e n hb hx
   exact⟨sl,(hs.2 b (ay (bj (Heap.lt_size e) I.ok.above))).trans e1⟩
  ·obtain⟨o',e1⟩:=I.base.there b o e hx
   exact⟨o',(hs.2 b (ay (bj (Heap.lt_size e) I.ok.above))).trans e1⟩
  ·by_cases hj:j=i
   ·subst hj
    rw[hi] at e1;cases e1;rw[nn hiσ] at e2;cases e2;exact⟨u,r,.inl ⟨hk,by simp⟩⟩
   ·rw[oq (Ne.symm hj)] at e2
    obtain⟨u',r',q⟩:=hl j y v' e1 e2 e3;refine⟨u',r',?_⟩;rcases q with ⟨k,e⟩ | ⟨k,c,e,z⟩
    ·refine .inl ⟨k,?_⟩
     have:y≠x:=fun e=>hj (xA hN e1 (e▸hi))
     simp[this,e]
    ·exact .inr ⟨k,c,e,z.sameBut hs (cne y c e)⟩
  ·obtain⟨w',z⟩:=I.cell y c e
   exact⟨w',z.sameBut hs (cne y c e)⟩
  ·obtain⟨e,n,ne,nf,d⟩:=I.pin p hp
   exact⟨(hs.2 p.1 ne).trans e,n,ne,nf,d⟩
 ·have hfn:X.fn x=true:=by
   rcases hf with z | z
   ·exact z
   ·rw[z] at hk;cases hk
  obtain⟨c,hc⟩:=I.ok.has x (.inl hk);obtain⟨w',z⟩:=I.cell x c hc;refine wpAny_storeName_cell I.ok.kind hk hc z (fun h' hc' hs=>?_);obtain⟨oc,hoc,hocd⟩:=id z;refine h { s with heap:=h' } ⟨I.ok,I.os,I.bare,⟨fun b o e n hb hx=>?_,fun b o e n hb hx=>?_,I.base.free,fun b o e hx=>?_,I.base.tups,I.base.frzs,I.base.tbls⟩,⟨m,hn.sameBut hs (Ne.symm (cne x c hc)),fun j y v' e1 e2 e3=>?_⟩,fun y c' e=>?_,I.free,I.freeC,fun p hp=>?_,tracked ⟨oc,hoc,I.freeC x c hc⟩ hs,by simpa using I.len⟩ ⟨c,hs,.inr hc⟩
  ·exact (hs.2 b (ay (bj (Heap.lt_size e) (I.ok.cab x c hfn hc)))).trans (I.base.keep b o e n hb hx)
  ·obtain⟨sl,e1⟩:=I.base.slot b o e n hb hx
   exact⟨sl,(hs.2 b (ay (bj (Heap.lt_size e) (I.ok.cab x c hfn hc)))).trans e1⟩
  ·obtain⟨o',e1⟩:=I.base.there b o e hx
   exact⟨o',(hs.2 b (ay (bj (Heap.lt_size e) (I.ok.cab x c hfn hc)))).trans e1⟩
  ·by_cases hj:j=i
   ·subst hj
    rw[hi] at e1;cases e1;rw[nn hiσ] at e2;cases e2;exact⟨u,r,.inr ⟨.inl hk,c,hc,hc'⟩⟩
   ·rw[oq (Ne.symm hj)] at e2
    obtain⟨u',r',q⟩:=hl j y v' e1 e2 e3;refine⟨u',r',?_⟩;rcases q with q | ⟨k,c',e,z'⟩
    ·exact .inl q
    ·refine .inr ⟨k,c',e,z'.sameBut hs ?_⟩
     rintro rfl;exact hj (xA hN e1 (I.ok.inj _ _ _ e hc▸hi))
  ·by_cases hcc:c'=c
   ·subst hcc;exact⟨_,hc'⟩
   ·obtain⟨w2,z2⟩:=I.cell y c' e
    exact⟨w2,z2.sameBut hs hcc⟩
  ·obtain⟨e,n,ne,nf,d⟩:=I.pin p hp
   refine⟨(hs.2 p.1 ?_).trans e,n,ne,nf,d⟩;intro q;rw[q,hoc] at e;have q':oc=p.2:=a5 e;exact d w' (by rw[<- q'];exact hocd)
theorem mG {M:Model}{A:Around}{E:Value->Shared->Prop}{i:Nat}{x:Str}{v:V}{u:Value}{Q:Unit->Shared->Prop}(I:Inv X pins σ H s)(hN:X.N.Nodup)(hi:X.N[i]?=some x)(hx:Loc X.env.scope x)(r:bF v u)
  (h:∀ s',Inv X pins (σ.set i (some v)) H s'->Q () s') (hf:X.fn x=true∨X.env.scope.names.lookup x=some .local:=by first | exact .inl rfl | exact .inr rfl | assumption):wpAny M A (storeName X.env x u) Q E s :=
 sQ I hN hi hx r (fun s' I' _=>h s' I') hf
theorem Inv.call' {s':Shared}{ch:List Addr}(I:Inv X pins σ H s)(ho:s'.os=s.os)(u:Un (frs X.stack) ch H H' s.heap s'.heap)(hok:HOk X.prog X.w H' s'.heap)(hg:AllBare s'.gens)
  (hch:∀ b∈ch,(b∈X.ex∨X.s₀.heap.objs.size<=b)∧b≠X.env.locals∧(∀ x c,X.env.cells.lookup x=some c->c≠b)∧∀ p∈X.pn++pins,p.1≠b):Inv X pins σ H' s':=by
 obtain⟨h',g',d',t',o'⟩:=s';have e:o'=s.os:=ho;subst e;exact I.call (g':=g') (t':=t') (d':=d') u hok hg hch
end
abbrev XK:=Value->Option Addr->Hp->Prop
abbrev St:=List (Option V)
abbrev VK:=V->Hp->Prop
abbrev TE:=St->Hp->VK->Prop
abbrev TT:=St->Hp->(Bool->Hp->Prop)->Prop
abbrev TA:=St->Hp->(List V->Hp->Prop)->Prop
structure kU where
 nx:St->Hp->Prop
 rt:VK
 bk:St->Hp->Prop:=fun _ _=>False
 ct:St->Hp->Prop:=fun _ _=>False
abbrev TS:=kU->St->Hp->Prop
def EP (X:Cx)(pins:List (Addr×Obj))(σ:St)(Q:VK)(u:Value)(s':Shared):Prop:=∃ v H',Inv X pins σ H' s'∧bF v u∧Q v H'
def TP (X:Cx)(pins:List (Addr×Obj))(σ:St)(Q:Bool->Hp->Prop)(b:Bool)(s':Shared):Prop:=∃ H',Inv X pins σ H' s'∧Q b H'
def AP (X:Cx)(pins:List (Addr×Obj))(σ:St)(Q:List V->Hp->Prop)(us:List Value)(s':Shared):Prop:=∃ vs H',Inv X pins σ H' s'∧bN vs us∧Q vs H'
def SP (X:Cx)(pins:List (Addr×Obj))(D:kU)(f:Flow)(s':Shared):Prop :=
 match f with
 | .next=>∃ σ' H',Inv X pins σ' H' s'∧D.nx σ' H'
 | .brk=>∃ σ' H',Inv X pins σ' H' s'∧D.bk σ' H'
 | .cont=>∃ σ' H',Inv X pins σ' H' s'∧D.ct σ' H'
 | .ret u=>∃ v σ' H',Inv X pins σ' H' s'∧bF v u∧D.rt v H'
def PE (X:Cx)(e:Expr)(t:TE):Prop :=
 ∀ (pins:List (Addr×Obj)) (s:Shared) (σ:St) (H:Hp) (Q:VK),Inv X pins σ H s->t σ H Q->wpAny (model X.prog X.w) X.A (eval e X.env) (EP X pins σ Q) X.xe s
def PT (X:Cx)(e:Expr)(t:TT):Prop :=
 ∀ (pins:List (Addr×Obj)) (s:Shared) (σ:St) (H:Hp) (Q:Bool->Hp->Prop),Inv X pins σ H s->t σ H Q->wpAny (model X.prog X.w) X.A (isTrue e X.env (eval e X.env)) (TP X pins σ Q) X.xe s
def PW (X:Cx)(e:Expr)(t:TT):Prop :=
 ∀ (whole:Sem Value) (pins:List (Addr×Obj)) (s:Shared) (σ:St) (H:Hp) (Q:Bool->Hp->Prop),Inv X pins σ H s->t σ H Q->wpAny (model X.prog X.w) X.A (isTrue e X.env whole) (TP X pins σ Q) X.xe s
theorem PW.pt {X:Cx}{e:Expr}{t:TT}(h:PW X e t):PT X e t:=h _
def PA (X:Cx)(es:List Expr)(t:TA):Prop :=
 ∀ (pos:Pos) (pins:List (Addr×Obj)) (s:Shared) (σ:St) (H:Hp) (Q:List V->Hp->Prop),Inv X pins σ H s->t σ H Q->wpAny (model X.prog X.w) X.A (spliced (backTo pos (starEach es X.env))) (AP X pins σ Q) X.xe s
def PS (X:Cx)(st:Stmt)(t:TS):Prop :=
 ∀ (pins:List (Addr×Obj)) (s:Shared) (σ:St) (H:Hp) (D:kU),Inv X pins σ H s->t D σ H->wpAny (model X.prog X.w) X.A (exec st X.env) (SP X pins D) X.xe s
def PSs (X:Cx)(st:List Stmt)(t:TS):Prop :=
 ∀ (pins:List (Addr×Obj)) (s:Shared) (σ:St) (H:Hp) (D:kU),Inv X pins σ H s->t D σ H->wpAny (model X.prog X.w) X.A (execs st X.env) (SP X pins D) X.xe s
theorem thn {α:Type}{t:Sem α}{Q Q':α->Shared->Prop}{M:Model}{A:Around}{E:Value->Shared->Prop}{s:Shared}(h:wpAny M A t Q E s)(hQ:∀ a s,Q a s->Q' a s):wpAny M A t Q' E s:=wpAny_mono h hQ fun _ _ x=>x
section
variable {X:Cx}
def Re (i:Nat):TE:=fun σ H Q=>∃ v,σ[i]?=some (some v)∧Q v H
def tC (v:V):TE:=fun _ H Q=>Q v H
theorem Ou {i:Nat}{x:Str}{pos:Pos}(hN:X.N[i]?=some x)(hv:Vis X.env.scope x)(hd:(x==("__debug__" : Str))=false:=by decide)(hcd:(x==("__classdict__" : Str))=false:=by decide):PE X (.Name x pos) (Re i):=by
 intro pins s σ H Q I h;obtain⟨v,e,h⟩:=h;obtain⟨m,hn,hl⟩:=I.loc;obtain⟨u,r,l⟩:=hl i x v hN e hv;have fin:EP X pins σ Q u s:=⟨v,H,I,r,h⟩;rcases l with ⟨hk,hm⟩ | ⟨hk,c,hc,hcell⟩
 ·exact wpAny_Name (wpAny_loadName_local I.ok.kind hk hn hm fin) hd
 ·rcases hk with hk | hk
  ·exact wpAny_Name (wpAny_loadName_cell I.ok.kind hk hc hcell fin) hd
  ·exact wpAny_Name (wpAny_loadName_free I.ok.kind hk hc hcell fin hcd) hd
theorem aG {i j pos}:PE X (.Constant (.int i) j pos) (tC (.int i)):=fun _ _ _ H _ I h=>wpAny_Constant_int ⟨.int i,H,I.tok _,⟨_,rfl⟩,h⟩
theorem fK {b j pos}:PE X (.Constant (.bool b) j pos) (tC (.bl b)):=fun _ _ _ H _ I h=>Constant_bool ⟨.bl b,H,I,rfl,h⟩
theorem Os {j pos}:PE X (.Constant .none j pos) (tC .non):=fun _ _ _ H _ I h=>Constant_none ⟨.non,H,I,rfl,h⟩
theorem Oa {x j pos}:PE X (.Constant (.str x) j pos) (tC (.str x)):=fun _ _ _ H _ I h=>Calls.Constant_str ⟨.str x,H,I.tok _,⟨_,rfl⟩,h⟩
def Gl (X:Cx)(x:Str):Prop:=X.env.kindOf x=some .globalImplicit
theorem oZ {E:Value->Shared->Prop}{pins:List (Addr×Obj)}{s:Shared}{σ:St}{H:Hp}{x:Str}{u:Value}{pos:Pos}{Q:Value->Shared->Prop}(I:Inv X pins σ H s)(hg:Gl X x)(hm:X.mg x=some u)(h:Q u s)
  (hd:(x==("__debug__" : Str))=false:=by decide):wpAny (model X.prog X.w) X.A (eval (.Name x pos) X.env) Q E s :=
 Calls.Name_function_global I.ok.kind hg (Calls.loadGlobal_global (by rw[I.ok.glob];exact I.mod.glob.keeps I.bk) hm h) hd
theorem jM {E:Value->Shared->Prop}{pins:List (Addr×Obj)}{s:Shared}{σ:St}{H:Hp}{x:Str}{u:Value}{pos:Pos}{Q:Value->Shared->Prop}(I:Inv X pins σ H s)(hg:Gl X x)(hm:X.mg x=none)(hv:bootBuiltins x=some u)(h:Q u s)
  (hn:x ≠ "__name__" := by decide) (hd:(x==("__debug__" : Str))=false:=by decide):wpAny (model X.prog X.w) X.A (eval (.Name x pos) X.env) Q E s:=by
 obtain⟨mb,h1,h2⟩:=I.mod.blt;exact Calls.Name_function_global I.ok.kind hg (Calls.loadGlobal_builtin (by rw[I.ok.glob];exact I.mod.glob.keeps I.bk) hm (by rw[I.ok.blt];exact h1.keeps I.bk) ((h2 x hn).trans hv) h) hd
theorem eK {x:Str}{v:V}{u:Value}{pos:Pos}(hg:Gl X x)(hm:X.mg x=some u)(r:bF v u)(hd:(x==("__debug__" : Str))=false:=by decide):PE X (.Name x pos) (tC v) :=
 fun _ _ _ H _ I h=>oZ I hg hm ⟨v,H,I,r,h⟩ hd
theorem uQ {x:Str}{v:V}{u:Value}{pos:Pos}(hg:Gl X x)(hm:X.mg x=none)(hv:bootBuiltins x=some u)(r:bF v u)(hn:x ≠ "__name__" := by decide)(hd:(x==("__debug__" : Str))=false:=by decide):PE X (.Name x pos) (tC v) :=
 fun _ _ _ H _ I h=>jM I hg hm hv ⟨v,H,I,r,h⟩ hn hd
variable {a b:Expr}{ta tb:TE}{pos:Pos}
def PC (X:Cx)(op:CmpOp)(a b:Expr)(t:TE):Prop :=
 ∀ (pins:List (Addr×Obj)) (s:Shared) (σ:St) (H:Hp) (Q:VK),Inv X pins σ H s->t σ H Q ->
  wpAny (model X.prog X.w) X.A (eval a X.env) (fun v s₁=>wpAny (model X.prog X.w) X.A (eval b X.env) (fun u s₂=>wpAny (model X.prog X.w) X.A (compareOp op v u) (EP X pins σ Q) X.xe s₂) X.xe s₁) X.xe s
theorem Gb (b:Expr){op:CmpOp}(h:op≠.In)(h2:op≠.NotIn):behindInMarks op b=false:=by
 have e1:(op==CmpOp.In)=false:=by cases op <;> first | rfl | exact absurd rfl h
 have e2:(op==CmpOp.NotIn)=false:=by cases op <;> first | rfl | exact absurd rfl h2
 cases b <;> simp[behindInMarks,e1,e2]
def Ss (ta:TE):TE:=fun σ H Q=>ta σ H fun x H1=>Q (.bl (decide (x = .non))) H1
theorem bF.none_iff {x:V}{v:Value}(r:bF x v):(v==Value.none)=decide (x = .non):=by
 cases x with
 | non=>cases r;rfl
 | bl _=>cases r;rfl
 | int _=>obtain⟨t,rfl⟩:=r;rfl
 | str _=>obtain⟨t,rfl⟩:=r;rfl
 | byt _=>obtain⟨t,rfl⟩:=r;rfl
 | flt _=>obtain⟨t,rfl⟩:=r;rfl
 | ref _=>cases r;rfl
 | ty _=>cases r;rfl
theorem Op {j pos'}(ha:PE X a ta):PC X .Is a (.Constant .none j pos') (Ss ta):=by
 intro pins s σ H Q I h;refine thn (ha pins s σ H _ I h) fun v s1 ⟨x,H1,I1,r1,q1⟩=>?_
 exact Constant_none (is_none_gen ⟨.bl _,H1,I1,by rw[r1.none_iff];rfl,q1⟩)
def tB (t:TE):TT:=fun σ H Q=>t σ H fun x H1=>∃ c,x = .bl c∧Q c H1
theorem vV {op:CmpOp}{t:TE}(h:PC X op a b t)(h1:behindInMarks op b=false:=by first | exact Gb _ (by decide) (by decide) | rfl):PT X (.Compare a [op] [b] pos) (tB t):=by
 intro pins s σ H Q I hw;refine wpAny_isTrue_Compare1 (thn (h pins s σ H _ I hw) fun v s1 h1=>thn h1 fun u s2 h2=>thn h2 fun c s3 ⟨x,H1,I1,r1,q1⟩=>?_) h1;obtain⟨d,rfl,q⟩:=q1;cases r1;exact wpAny_truthy_bool ⟨H1,I1,q⟩
theorem lN {e:Expr}{t:TE}(h:PE X e t)(he:∀ whole,isTrue e X.env whole=(do let v <- whole;standAt e.pos;holding [v] (truthy v)):=by intro _;rfl):PT X e (tB t):=by
 intro pins s σ H Q I hw;refine isTrue_plain (thn (h pins s σ H _ I hw) fun v s1 ⟨x,H1,I1,r1,q1⟩=>?_) (he _);obtain⟨d,rfl,q⟩:=q1;cases r1;exact wpAny_truthy_bool ⟨H1,I1,q⟩
variable {tA tB':TT}{rest:List Expr}
def Sy (t u:TT):TT:=fun σ H Q=>t σ H fun c H1=>if c=true then u σ H1 Q else Q false H1
def tOr (t u:TT):TT:=fun σ H Q=>t σ H fun c H1=>if c=true then Q true H1 else u σ H1 Q
def Tc (t:TT):TT:=fun σ H Q=>t σ H fun c H1=>Q (!c) H1
theorem pH (ha:PT X a tA):PW X (.BoolOp .And [a] pos) tA:=by
 intro wh pins s σ H Q I h;refine isTrue_and (thn (ha pins s σ H Q I h) fun c s1 e=>?_)
 cases c with
 | true=>exact isTrue_and_nil e
 | false=>exact e
theorem nG (ha:PT X a tA):PW X (.BoolOp .Or [a] pos) tA:=by
 intro wh pins s σ H Q I h;refine isTrue_or (thn (ha pins s σ H Q I h) fun c s1 e=>?_)
 cases c with
 | false=>exact isTrue_or_nil e
 | true=>exact e
theorem vH (ha:PT X a tA)(hb:PW X (.BoolOp .And (b::rest) pos) tB'):PW X (.BoolOp .And (a::b::rest) pos) (Sy tA tB'):=by
 intro wh pins s σ H Q I h;refine isTrue_and (thn (ha pins s σ H _ I h) fun c s1 ⟨H1,I1,q1⟩=>?_)
 cases c with
 | true=>exact hb wh pins s1 σ H1 Q I1 q1
 | false=>exact⟨H1,I1,q1⟩
theorem sJ (ha:PT X a tA)(hb:PW X (.BoolOp .Or (b::rest) pos) tB'):PW X (.BoolOp .Or (a::b::rest) pos) (tOr tA tB'):=by
 intro wh pins s σ H Q I h;refine isTrue_or (thn (ha pins s σ H _ I h) fun c s1 ⟨H1,I1,q1⟩=>?_)
 cases c with
 | true=>exact⟨H1,I1,q1⟩
 | false=>exact hb wh pins s1 σ H1 Q I1 q1
theorem mX (ha:PT X a tA):PT X (.UnaryOp .Not a pos) (Tc tA):=by
 intro pins s σ H Q I h;exact isTrue_not (ha pins s σ H (fun c H1=>Q (!c) H1) I h)
def Rx (ta tb:TE):TE:=fun σ H Q=>ta σ H fun x H1=>∃ c,x = .bl c∧if c=true then tb σ H1 Q else Q (.bl false) H1
theorem Om {op}{t:TE}(h:PE X a t):PE X (.BoolOp op [a] pos) t:=fun pins s σ H Q I hw=>BoolOp_one (h pins s σ H Q I hw)
theorem Py (ha:PE X a ta)(hb:PE X (.BoolOp .And (b::rest) pos) tb):PE X (.BoolOp .And (a::b::rest) pos) (Rx ta tb):=by
 intro pins s σ H Q I h;refine BoolOp_and (thn (ha pins s σ H _ I h) fun v s1 ⟨x,H1,I1,r1,q1⟩=>?_);obtain⟨c,rfl,q1⟩:=q1;cases r1;refine wpAny_truthy_bool ?_
 cases c with
 | true=>exact hb pins s1 σ H1 Q I1 q1
 | false=>exact⟨.bl false,H1,I1,rfl,q1⟩
def tIf (t:TT)(ta tb:TE):TE:=fun σ H Q=>t σ H fun c H1=>if c=true then ta σ H1 Q else tb σ H1 Q
theorem Io {c:Expr}(hc:PT X c tA)(ha:PE X a ta)(hb:PE X b tb):PE X (.IfExp c a b pos) (tIf tA ta tb):=by
 intro pins s σ H Q I h;refine wpAny_IfExp (thn (hc pins s σ H _ I h) fun d s1 ⟨H1,I1,q1⟩=>?_)
 cases d with
 | true=>exact ha pins s1 σ H1 Q I1 q1
 | false=>exact hb pins s1 σ H1 Q I1 q1
end
def SqL (K:ac)(H:Hp)(a:Addr)(xs:List V):Prop :=
 Rd H a (.lst xs) ∨
  ∃ (o:Obj) (its:Array Value) (n:Nat),K.lookup a=some o∧o.cls = .type "list" ∧ o.dict=none∧o.data = .seq its n∧its.size<=sizeLine∧bN xs its.toList
def SqT (K:ac)(H:Hp)(a:Addr)(xs:List V):Prop :=
 Rd H a (.tup xs) ∨
  ∃ (o:Obj) (its:Array Value) (n:Nat),K.lookup a=some o∧o.cls = .type "tuple" ∧ o.data = .seq its n∧its.size<=sizeLine∧bN xs its.toList
def Tp:Value->Option V
 | .none=>some .non
 | .bool b=>some (.bl b)
 | .int i _=>some (.int i)
 | .str x _=>some (.str x)
 | .bytes b _=>some (.byt b)
 | .float b _=>some (.flt b)
 | .ref a=>some (.ref a)
 | .type n=>some (.ty n)
 | _=>none
theorem bF.abs {x:V}{u:Value}(r:bF x u):Tp u=some x:=by
 cases x with
 | non=>cases r;rfl
 | bl _=>cases r;rfl
 | int _=>obtain⟨t,rfl⟩:=r;rfl
 | str _=>obtain⟨t,rfl⟩:=r;rfl
 | byt _=>obtain⟨t,rfl⟩:=r;rfl
 | flt _=>obtain⟨t,rfl⟩:=r;rfl
 | ref _=>cases r;rfl
 | ty _=>cases r;rfl
theorem bF.inj {x y:V}{u:Value}(r:bF x u)(q:bF y u):x=y:=a5 (r.abs.symm.trans q.abs)
theorem bN.inj:∀ {xs ys:List V} {us:List Value},bN xs us->bN ys us->xs=ys
 | _,_,_,.nil,.nil=>rfl
 | _,_,_,.cons r t,.cons r' t'=>by rw[r.inj r',bN.inj t t']
section
variable {X:Cx}{pins:List (Addr×Obj)}{σ:St}{H:Hp}{s:Shared}{a:Addr}{xs ys:List V}
theorem SqL.of {K:ac}(h:H a=some (.lst xs)):SqL K H a xs:=.inl (.inl h)
theorem SqT.of {K:ac}(h:H a=some (.tup xs)):SqT K H a xs:=.inl (.inl h)
theorem Inv.list (I:Inv X pins σ H s)(h:SqL X.K H a xs):∃ its:List Value,bN xs its∧PlainL s.heap a its.toArray∧xs.length<=sizeLine:=by
 rcases h with h | ⟨o,its,n,hk,hc,hd,hs,hz,r⟩
 ·obtain⟨z,its,n,r,e⟩:=h.ok I.hok
  exact⟨its,r,⟨_,n,e,rfl,rfl,rfl⟩,z⟩
 ·refine⟨its.toList,r,⟨o,n,I.kIn a o hk,hc,hd,by simpa using hs⟩,?_⟩
  have e:=r.length;simp only [bh] at e;omega
theorem Inv.tuple (I:Inv X pins σ H s)(h:SqT X.K H a xs):∃ its:List Value,bN xs its∧IsTup s.heap a its.toArray∧xs.length<=sizeLine:=by
 rcases h with h | ⟨o,its,n,hk,hc,hs,hz,r⟩
 ·obtain⟨z,its,r,p⟩:=h.ok I.hok
  exact⟨its,r,p,z⟩
 ·refine⟨its.toList,r,⟨o,I.kIn a o hk,hc,n,by simpa using hs⟩,?_⟩
  have e:=r.length;simp only [bh] at e;omega
theorem Inv.list_inj (I:Inv X pins σ H s)(h:SqL X.K H a xs)(h':SqL X.K H a ys):xs=ys:=by
 obtain⟨its,r,⟨o,n,e,_,_,d⟩,_⟩:=I.list h;obtain⟨its',r',⟨o',n',e',_,_,d'⟩,_⟩:=I.list h';rw[e] at e';cases e';rw[d] at d'
 injection d' with d1 _
 have:its=its':=by simpa using congrArg tu d1
 subst this;exact r.inj r'
theorem Inv.tuple_inj (I:Inv X pins σ H s)(h:SqT X.K H a xs)(h':SqT X.K H a ys):xs=ys:=by
 obtain⟨its,r,⟨o,e,_,n,d⟩,_⟩:=I.tuple h;obtain⟨its',r',⟨o',e',_,n',d'⟩,_⟩:=I.tuple h';rw[e] at e';cases e';rw[d] at d'
 injection d' with d1 _
 have:its=its':=by simpa using congrArg tu d1
 subst this;exact r.inj r'
end
abbrev Cx.wish (X:Cx)(E:Value->Shared->Prop):Cx:={ X with xe:=E }
abbrev Cx.nox (X:Cx):Cx:=X.wish fun _ _=>False
theorem Cx.Ok.wish {X:Cx}(ok:X.Ok)(E:Value->Shared->Prop):(X.wish E).Ok :=
 ⟨ok.mod,ok.kind,ok.glob,ok.blt,ok.above,ok.inj,ok.has,ok.cab,ok.hd,ok.frames,ok.stk,ok.exf,ok.bs,ok.bsz,ok.noex,ok.exfs,ok.funs,ok.frf⟩
theorem Cx.Ok.unwish {X:Cx}{E:Value->Shared->Prop}(ok:(X.wish E).Ok):X.Ok :=
 ⟨ok.mod,ok.kind,ok.glob,ok.blt,ok.above,ok.inj,ok.has,ok.cab,ok.hd,ok.frames,ok.stk,ok.exf,ok.bs,ok.bsz,ok.noex,ok.exfs,ok.funs,ok.frf⟩
section
variable {X:Cx}{pins:List (Addr×Obj)}{σ:St}{H:Hp}{s:Shared}{E:Value->Shared->Prop}
theorem Inv.wish (I:Inv X pins σ H s)(E:Value->Shared->Prop):Inv (X.wish E) pins σ H s:=⟨I.ok.wish E,I.os,I.bare,I.base,I.loc,I.cell,I.free,I.freeC,I.pin,I.hok,I.len⟩
theorem Inv.unwish (I:Inv (X.wish E) pins σ H s):Inv X pins σ H s:=⟨I.ok.unwish,I.os,I.bare,I.base,I.loc,I.cell,I.free,I.freeC,I.pin,I.hok,I.len⟩
theorem SP.unwish {D:kU}{f:Flow}{s':Shared}(h:SP (X.wish E) pins D f s'):SP X pins D f s':=by
 cases f with
 | next=>obtain⟨σ',H',I,q⟩:=h;exact⟨σ',H',I.unwish,q⟩
 | brk=>obtain⟨σ',H',I,q⟩:=h;exact⟨σ',H',I.unwish,q⟩
 | cont=>obtain⟨σ',H',I,q⟩:=h;exact⟨σ',H',I.unwish,q⟩
 | ret u=>obtain⟨v,σ',H',I,r,q⟩:=h;exact⟨v,σ',H',I.unwish,r,q⟩
theorem PSs.nox {st:List Stmt}{t:TS}(h:PSs X.nox st t):PSs X st t:=fun pins s σ H D I hw =>
 wpAny_mono (h pins s σ H D (I.wish _) hw) (fun _ _ q=>q.unwish) fun _ _ z=>False.elim z
end
section
variable {X:Cx}{st:Stmt}{rest:List Stmt}{t u:TS}{e:Expr}{te:TE}{pos:Pos}
def Qv:TS:=fun D σ H=>D.nx σ H
def Sz (t u:TS):TS:=fun D σ H=>t { D with nx:=u D } σ H
theorem aV:PSs X [] Qv:=fun _ _ σ H _ I h=>wpAny_execs_nil ⟨σ,H,I,h⟩
theorem aC (h1:PS X st t)(h2:PSs X rest u):PSs X (st::rest) (Sz t u):=by
 intro pins s σ H D I h;refine wpAny_execs_cons (thn (h1 pins s σ H { D with nx:=u D } I h) fun f s1 q=>?_)
 cases f with
 | next =>
  obtain⟨σ',H',I',q⟩:=q;exact h2 pins s1 σ' H' D I' q
 | ret v=>exact q
 | brk=>exact q
 | cont=>exact q
theorem aF (h1:PS X st t):PSs X [st] t:=by
 intro pins s σ H D I h;refine wpAny_execs_cons (thn (h1 pins s σ H D I h) fun f s1 q=>?_)
 cases f with
 | next=>exact wpAny_execs_nil q
 | ret v=>exact q
 | brk=>exact q
 | cont=>exact q
def Nw:TS:=fun D σ H=>D.bk σ H
theorem Fa:PS X (.Break pos) Nw:=fun _ _ σ H _ I h=>wpAny_Break ⟨σ,H,I,h⟩
theorem Inv.quiet {pins:List (Addr×Obj)}{σ:St}{H:Hp}{s:Shared}(I:Inv X pins σ H s):interactive X.env=false:=by simp[interactive,I.ok.kind]
def Rk (te:TE):TS:=fun D σ H=>te σ H fun _ H1=>D.nx σ H1
theorem cW (he:PE X e te)(hs:swapsWith e none pos.line X.env=pure false:=by rfl):PS X (.Expr e pos) (Rk te):=by
 intro pins s σ H D I h;exact wpAny_Expr_any (thn (he pins s σ H _ I h) fun v s1 ⟨x,H1,I1,r1,q1⟩=>⟨σ,H1,I1,q1⟩) I.quiet hs
def Tm (te:TE):TS:=fun D σ H=>te σ H D.rt
theorem bA (he:PE X e te):PS X (.Return (some e) pos) (Tm te):=by
 intro pins s σ H D I h;exact wpAny_Return_some (thn (he pins s σ H _ I h) fun v s1 ⟨x,H1,I1,r1,q1⟩=>⟨x,σ,H1,I1,r1,q1⟩)
def Sv (c:TT)(t u:TS):TS:=fun D σ H=>c σ H fun b H1=>if b=true then t D σ H1 else u D σ H1
theorem bU {c:Expr}{a b:List Stmt}{tc:TT}(hc:PT X c tc)(ha:PSs X a t)(hb:PSs X b u):PS X (.If c a b pos) (Sv tc t u):=by
 intro pins s σ H D I h;refine wpAny_If (thn (hc pins s σ H _ I h) fun d s1 ⟨H1,I1,q1⟩=>?_)
 cases d with
 | true=>exact ha pins s1 σ H1 D I1 q1
 | false=>exact hb pins s1 σ H1 D I1 q1
end
abbrev TG:=V->St->Hp->(St->Hp->Prop)->Prop
abbrev TGs:=List V->St->Hp->(St->Hp->Prop)->Prop
def PG (X:Cx)(target:Expr)(t:TG):Prop :=
 ∀ (pins:List (Addr×Obj)) (s:Shared) (σ:St) (H:Hp) (v:V) (u:Value) (Q:St->Hp->Prop),Inv X pins σ H s->bF v u->t v σ H Q ->
  wpAny (model X.prog X.w) X.A (assign target X.env u) (fun _ s'=>∃ σ' H',Inv X pins σ' H' s'∧Q σ' H') X.xe s
def PGs (X:Cx)(ts:List Expr)(t:TGs):Prop :=
 ∀ (pins:List (Addr×Obj)) (s:Shared) (σ:St) (H:Hp) (vs:List V) (us:List Value) (Q:St->Hp->Prop),Inv X pins σ H s->bN vs us->t vs σ H Q ->
  wpAny (model X.prog X.w) X.A (assignInOrder ((assignEach ts X.env).map (·.2)) us) (fun _ s'=>∃ σ' H',Inv X pins σ' H' s'∧Q σ' H') X.xe s
abbrev Tb:=V->V->V->Hp->(Hp->Prop)->Prop
def To (X:Cx)(t:Tb):Prop :=
 ∀ (pins:List (Addr×Obj)) (s:Shared) (σ:St) (H:Hp) (o i v:V) (ov iv u:Value) (Q:Hp->Prop),Inv X pins σ H s->bF o ov->bF i iv->bF v u->t o i v H Q ->
  wpAny (model X.prog X.w) X.A (setItem ov iv u) (fun _ s'=>∃ H',Inv X pins σ H' s'∧Q H') X.xe s
section
variable {X:Cx}{pos:Pos}
def sX (i:Nat):TG:=fun v σ H Q=>Q (σ.set i (some v)) H
theorem bG {i:Nat}{x:Str}(hN:X.N.Nodup)(hi:X.N[i]?=some x)(hx:Loc X.env.scope x)(hf:X.fn x=true∨X.env.scope.names.lookup x=some .local:=by first | exact .inl rfl | exact .inr rfl | assumption):PG X (.Name x pos) (sX i):=by
 intro pins s σ H v u Q I r h;exact wpAny_assign_Name (mG I hN hi hx r (fun s' I'=>⟨_,H,I',h⟩) hf)
def Tu:TGs:=fun vs σ H Q=>vs=[]∧Q σ H
def Sa (t:TG)(u:TGs):TGs:=fun vs σ H Q=>∃ v r,vs=v::r∧t v σ H fun σ' H'=>u r σ' H' Q
theorem uX:PGs X [] Tu:=by
 intro pins s σ H vs us Q I r h;obtain⟨e,h⟩:=h;subst e;cases r;exact assignInOrder_nil ⟨σ,H,I,h⟩
theorem hX {e:Expr}{es:List Expr}{t:TG}{u:TGs}(h1:PG X e t)(h2:PGs X es u)
  (hs:(assignEach (e::es) X.env).map (·.2)=assign e X.env::(assignEach es X.env).map (·.2):=by rfl):PGs X (e::es) (Sa t u):=by
 intro pins s σ H vs us Q I r h;obtain⟨v,vr,e1,h⟩:=h;subst e1
 cases r with
 | cons r rr =>
  rw[hs];refine assignInOrder_cons (thn (h1 pins s σ H _ _ _ I r h) fun _ s1 ⟨σ1,H1,I1,q1⟩=>?_);exact h2 pins s1 σ1 H1 _ _ Q I1 rr q1
def Ty (K:ac)(n:Nat)(t:TGs):TG:=fun v σ H Q=>∃ a xs,v = .ref a∧SqT K H a xs∧xs.length=n∧t xs σ H Q
theorem Ad {es:List Expr}{k:Nat}{t:TGs}{n:Nat}(hc:X.calm=true)(h:PGs X es t)
  (hn:(assignEach es X.env).length=n:=by rfl) (hst:(assignEach es X.env).findIdx? (·.1)=none:=by rfl):PG X (.Tuple es k pos) (Ty X.K n t):=by
 intro pins s σ H v u Q I r hw;obtain⟨a,xs,e1,hq,hl,hw⟩:=hw;subst e1;cases r;obtain⟨its,rv,ht,hz⟩:=I.tuple hq;refine assign_Tuple_tuple (I.ok.hd hc) ht (by simp[hn,<- hl,rv.length]) hst fun h' hx=>?_
 have I1:Inv X pins σ H { s with heap:=h' }:=I.kept (t':=s.toks) fun b o e=>hx b o (ay (Heap.lt_size e)) e
 exact h pins _ σ H xs _ Q I1 (by simpa using rv) hw
def Fo (te:TE)(g:TG):TS:=fun D σ H=>te σ H fun x H1=>g x σ H1 D.nx
theorem Nl {tg e:Expr}{te:TE}{g:TG}(he:PE X e te)(hg:PG X tg g)(hs:swapsWithSole [tg] e pos.line X.env=pure false:=by rfl)(hw:swappedStores [tg] e X.env=pure none:=by rfl)
  (h1:(assignEach [tg] X.env).map (·.2)=[assign tg X.env]:=by rfl):PS X (.Assign [tg] e pos) (Fo te g):=by
 intro pins s σ H D I h;refine wpAny_Assign_stores (thn (he pins s σ H _ I h) fun v s1 ⟨x,H1,I1,r1,q1⟩=>?_) hs hw;rw[h1];exact thn (hg pins s1 σ H1 x v _ I1 r1 q1) fun _ s2 q=>q
theorem aJ {i:Nat}{x:Str}{e:Expr}{te:TE}{pos':Pos}(hN:X.N.Nodup)(hi:X.N[i]?=some x)(hx:Loc X.env.scope x)(he:PE X e te)(hs:swapsWith e (some (.Name x pos')) pos.line X.env=pure false:=by rfl)(hf:X.fn x=true∨X.env.scope.names.lookup x=some .local:=by first | exact .inl rfl | exact .inr rfl | assumption) :
  PS X (.Assign [.Name x pos'] e pos) (Fo te (sX i)):=by
 intro pins s σ H D I h;refine wpAny_Assign_Name (thn (he pins s σ H _ I h) fun v s1 ⟨y,H1,I1,r1,q1⟩=>?_) hs;exact mG I1 hN hi hx r1 (fun s2 I2=>⟨_,H1,I2,q1⟩) hf
def Oo (c:TT)(tb:TS):TS:=fun D σ H=>∃ W:Nat->St->Hp->Prop,(∃ m,W m σ H)∧∀ m σ H,W m σ H ->
 c σ H fun b H1=>if b=true then ∃ N:St->Hp->Prop,(∀ σ' H',N σ' H'->∃ m',m'<m∧W m' σ' H')∧tb { D with nx:=N,ct:=N,bk:=D.nx } σ H1 else D.nx σ H1
theorem kC {c:Expr}{body:List Stmt}{tc:TT}{tb:TS}(hp:PassesOwn (model X.prog X.w) X.A X.env X.xe)(hc:PT X c tc)(hb:PSs X body tb):PS X (.While c body [] pos) (Oo tc tb):=by
 intro pins s σ H D I h;obtain⟨W,⟨m0,w0⟩,turn⟩:=h;refine wpAny_While (codeAny_whileLoop (fun n s'=>∃ σ' H',Inv X pins σ' H' s'∧W n σ' H') ?_ m0 ⟨σ,H,I,w0⟩);rintro n s1 ⟨σ1,H1,I1,w1⟩;refine wpAny_passesOwn hp (thn (hc pins s1 σ1 H1 _ I1 (turn n σ1 H1 w1)) fun b s2 ⟨H2,I2,q2⟩=>?_)
 cases b with
 | true =>
  obtain⟨N,hN,q2⟩:=q2;rw[if_pos rfl];refine wpAny_passesOwn hp (thn (hb pins s2 σ1 H2 _ I2 q2) fun f s3 q3=>?_)
  cases f with
  | next =>
   obtain⟨σ3,H3,I3,n3⟩:=q3;obtain⟨m',hm,w3⟩:=hN σ3 H3 n3;exact⟨m',hm,σ3,H3,I3,w3⟩
  | cont =>
   obtain⟨σ3,H3,I3,n3⟩:=q3;obtain⟨m',hm,w3⟩:=hN σ3 H3 n3;exact⟨m',hm,σ3,H3,I3,w3⟩
  | brk=>exact q3
  | ret v=>exact q3
 | false =>
  rw[if_neg ak];exact wpAny_execs_nil ⟨σ1,H2,I2,q2⟩
end
structure It where
 go:Nat->Hp->Prop
 yld:Nat->Hp->V->Hp->Prop
 stop:Nat->Hp->Prop
def kI (X:Cx)(pins:List (Addr×Obj))(H:Hp)(b:Addr):Prop :=
 H b=none∧b≠X.env.locals∧b∉X.fs∧(b∈X.ex∨X.s₀.heap.objs.size<=b)∧(∀ x c,X.env.cells.lookup x=some c->c≠b)∧∀ p∈X.pn++pins,p.1≠b
theorem Inv.fpOk {X:Cx}{pins:List (Addr×Obj)}{σ:St}{H H':Hp}{s:Shared}{b:Addr}(I:Inv X pins σ H s)(hb:s.heap.objs.size<=b)(hn:H' b=none):kI X pins H' b:=by
 refine⟨hn,fu (bj I.lt hb),I.nofs hb,.inr (a7 I.sz hb),fun x c e z=>?_,fun p hp z=>?_⟩
 ·obtain⟨v,q⟩:=I.cell x c e
  exact absurd (bj q.lt (by rw[z];exact hb)) (dz _)
 ·exact absurd (bj (Heap.lt_size (I.pin p hp).1) (by rw[z];exact hb)) (dz _)
structure pQ (P:Program)(w:World)(K:ac)(tg:Expr)(J:It)(fp:List Addr)(it:Addr)(tn:Nat->Heap->Prop):Prop where
 mem:it∈fp
 obj:∀ i h,tn i h->∀ b∈fp,∃ o,h.get? b=some o∧∀ v,o.data≠.cell v
 keep:∀ i h h',tn i h->(∀ b∈fp,∀ o,h.get? b=some o->h'.get? b=some o)->tn i h'
 item:∀ (X:Cx),X.prog=P->X.w=w->X.K=K->X.calm=true->∀ (i:Nat) (pins:List (Addr×Obj)) (s:Shared) (σ:St) (H:Hp) (E:Value->Shared->Prop),Inv X pins σ H s->(∀ b∈fp,kI X pins H b)->tn i s.heap->J.go i H ->
  wpAny (model P w) X.A (pyNext (.ref it)) (fun r s1=>∃ u,r=some u ∧
   wpAny (model P w) X.A (letOwnedTupleGo tg (.ref it) u) (fun _ s2=>∃ x H',Inv X pins σ H' s2∧bF x u∧J.yld i H x H'∧tn (i+1) s2.heap∧∀ b∈fp,H' b=none) E s1) E s
 done:∀ (X:Cx),X.prog=P->X.w=w->X.K=K->X.calm=true->∀ (i:Nat) (pins:List (Addr×Obj)) (s:Shared) (σ:St) (H:Hp) (E:Value->Shared->Prop),Inv X pins σ H s->(∀ b∈fp,kI X pins H b)->tn i s.heap->J.stop i H ->
  wpAny (model P w) X.A (pyNext (.ref it)) (fun r s1=>r=none∧Inv X pins σ H s1) E s
 self:∀ (A:Around) (i:Nat) (s:Shared) (Q:Value->Shared->Prop) (E:Value->Shared->Prop),tn i s.heap->Q (.ref it) s->wpAny (model P w) A (pyIter (.ref it)) Q E s
abbrev TI:=St->Hp->(It->Hp->Prop)->Prop
def PIE (X:Cx)(pins:List (Addr×Obj))(σ:St)(tg:Expr)(R:It->Hp->Prop)(itv:Value)(s2:Shared):Prop :=
 ∃ (it:Addr) (fp:List Addr) (tn:Nat->Heap->Prop) (J:It) (H':Hp),itv = .ref it∧Inv X pins σ H' s2∧pQ X.prog X.w X.K tg J fp it tn∧tn 0 s2.heap∧(∀ b∈fp,kI X pins H' b)∧R J H'
def PI (X:Cx)(tg iter:Expr)(wi:TI):Prop :=
 ∀ (pins:List (Addr×Obj)) (s:Shared) (σ:St) (H:Hp) (R:It->Hp->Prop),Inv X pins σ H s->wi σ H R ->
  wpAny (model X.prog X.w) X.A (eval iter X.env) (fun v s1=>wpAny (model X.prog X.w) X.A (pyIter v) (PIE X pins σ tg R) X.xe s1) X.xe s
theorem Ce {M : Model} {A : Around} {E : Value → Shared → Prop} {s : Shared} {tg : Expr} {it : Addr} {u : Value} {o : Obj} {n : String} {vs : Array Value} {Q : Unit → Shared → Prop} (ho : s.heap.get? it = some o) (hc : o.cls = .type n) (hd : o.data = .fields vs)
    (hn : ["enumerate", "zip", "dict_itemiterator", "dict_reverseitemiterator", "odict_iterator", "itertools.zip_longest", "itertools.pairwise"].contains n = false) (hQ : Q () s) : wpAny M A (letOwnedTupleGo tg (.ref it) u) Q E s := by
  unfold letOwnedTupleGo;cases tg <;> first
    | exact wpAny_pure hQ
    | (cases u <;> first
        | exact wpAny_pure hQ
        | (refine wpAny_bind (wpAny_load ho ?_)
           rw[hc, hd];show wpAny M A (if (["enumerate", "zip", "dict_itemiterator", "dict_reverseitemiterator", "odict_iterator", "itertools.zip_longest", "itertools.pairwise"].contains n && vs[0]? == some (rawInt _)) = true then _ else _) Q E s
           rw[if_neg (by intro h; rw[hn, ou] at h; cases h)];exact wpAny_pure hQ))
def Itl (K:ac)(a:Addr):It :=
 ⟨fun i H=>∃ xs x,SqL K H a xs∧xs[i]?=some x,fun i H x H'=>H'=H∧∀ xs,SqL K H a xs->xs[i]?=some x,fun i H=>∃ xs,SqL K H a xs∧xs.length<=i⟩
def Itt (K:ac)(a:Addr):It :=
 ⟨fun i H=>∃ xs x,SqT K H a xs∧xs[i]?=some x,fun i H x H'=>H'=H∧∀ xs,SqT K H a xs->xs[i]?=some x,fun i H=>∃ xs,SqT K H a xs∧xs.length<=i⟩
def Itr (lo:Int)(n:Nat):It:=⟨fun i _=>i<n,fun i H x H'=>H'=H∧x = .int (lo+i),fun i _=>n<=i⟩
theorem tJ {P:Program}{w:World}{K:ac}{tg:Expr}(a it:Addr):pQ P w K tg (Itl K a) [it] it (fun i h=>h.IsListIter it a i) where
 mem:=by simp
 obj:=fun i h st b hb=>by
  have e:b=it:=by simpa using hb
  subst e;obtain⟨o,e,c,d⟩:=st;exact⟨o,e,fun v z=>by rw[d] at z;cases z⟩
 keep:=fun i h h' st k=>st.at fun o e=>k it (by simp) o e
 item:=by
  intro X hP hw hK hc i pins s σ H E I hf st hg;subst hP hw hK;obtain⟨xs,x,hq,hx⟩:=hg;obtain⟨its,rv,p,hz⟩:=I.list hq;obtain⟨u,hu,ru⟩:=rv.get hx;obtain⟨f0,f1,f2,f3,f4,f5⟩:=hf it (by simp);refine wpAny_pyNext_list_item st p.isList (x:=u) (by simpa using hu) fun h' st' sb=>?_
  have I1:Inv X pins σ H { s with heap:=h' }:=I.turned (t':=s.toks) (fun b o hb e=>(sb.2 b hb).trans e) f0 f1 f3 f4 f5;obtain⟨o,e,c,d⟩:=id st';exact⟨u,rfl,Ce (s:={ s with heap:=h' }) e c d (by decide) ⟨x,H,I1,ru,⟨rfl,fun ys hy=>by rw[I.list_inj hy hq];exact hx⟩,st',fun b hb=>(hf b hb).1⟩⟩
 done:=by
  intro X hP hw hK hc i pins s σ H E I hf st hg;subst hP hw hK;obtain⟨xs,hq,hx⟩:=hg;obtain⟨its,rv,p,hz⟩:=I.list hq;obtain⟨f0,f1,f2,f3,f4,f5⟩:=hf it (by simp);have hl:=rv.length;exact wpAny_pyNext_list_end (I.ok.hd hc) st p.isList (by simp;omega) fun h' eb=>⟨rfl,I.turned (t':=s.toks) (fun b o hb e=>eb b o hb e) f0 f1 f3 f4 f5⟩
 self:=fun _ _ _ _ _ st h=>wpAny_pyIter_listiter st h
theorem qT {P:Program}{w:World}{K:ac}{tg:Expr}(a it:Addr):pQ P w K tg (Itt K a) [it] it (fun i h=>h.IsTupleIter it a i) where
 mem:=by simp
 obj:=fun i h st b hb=>by
  have e:b=it:=by simpa using hb
  subst e;obtain⟨o,e,c,d⟩:=st;exact⟨o,e,fun v z=>by rw[d] at z;cases z⟩
 keep:=fun i h h' st k=>st.at fun o e=>k it (by simp) o e
 item:=by
  intro X hP hw hK hc i pins s σ H E I hf st hg;subst hP hw hK;obtain⟨xs,x,hq,hx⟩:=hg;obtain⟨its,rv,p,hz⟩:=I.tuple hq;obtain⟨u,hu,ru⟩:=rv.get hx;obtain⟨f0,f1,f2,f3,f4,f5⟩:=hf it (by simp);refine wpAny_pyNext_tuple_item st (show s.heap.IsTuple a its.toArray from p) (x:=u) (by simpa using hu) fun h' st' sb=>?_
  have I1:Inv X pins σ H { s with heap:=h' }:=I.turned (t':=s.toks) (fun b o hb e=>(sb.2 b hb).trans e) f0 f1 f3 f4 f5;obtain⟨o,e,c,d⟩:=id st';exact⟨u,rfl,Ce (s:={ s with heap:=h' }) e c d (by decide) ⟨x,H,I1,ru,⟨rfl,fun ys hy=>by rw[I.tuple_inj hy hq];exact hx⟩,st',fun b hb=>(hf b hb).1⟩⟩
 done:=by
  intro X hP hw hK hc i pins s σ H E I hf st hg;subst hP hw hK;obtain⟨xs,hq,hx⟩:=hg;obtain⟨its,rv,p,hz⟩:=I.tuple hq;obtain⟨f0,f1,f2,f3,f4,f5⟩:=hf it (by simp);have hl:=rv.length;exact wpAny_pyNext_tuple_end (I.ok.hd hc) st (show s.heap.IsTuple a its.toArray from p) (by simp;omega) fun h' eb=>⟨rfl,I.turned (t':=s.toks) (fun b o hb e=>eb b o hb e) f0 f1 f3 f4 f5⟩
 self:=fun _ _ _ _ _ st h=>wpAny_pyIter_tupleiter st h
theorem yR {P:Program}{w:World}{K:ac}{tg:Expr}(it:Addr)(lo:Int)(n:Nat):pQ P w K tg (Itr lo n) [it] it (fun i h=>IsRangeIter h it (lo+(i:Nat)*1) ((n:Int)-(i:Nat)) 1) where
 mem:=by simp
 obj:=fun i h st b hb=>by
  have e:b=it:=by simpa using hb
  subst e;exact⟨_,st,fun v z=>by
   have z':Data.fields _=Data.cell v:=z;cases z'⟩
 keep:=fun i h h' st k=>k it (by simp) _ st
 item:=by
  intro X hP hw hK hc i pins s σ H E I hf st hg;subst hP hw hK;obtain⟨f0,f1,f2,f3,f4,f5⟩:=hf it (by simp);have W:=Walks.range (prog:=X.prog) (w:=X.w) (I.ok.hd hc) it lo 1 n;refine W.item i s _ _ hg st fun v h' tk hv st' kk=>?_
  obtain⟨t,rfl⟩:=hv;have I1:Inv X pins σ H { s with heap:=h',toks:=tk }:=I.turned (fun b o hb e=>kk b o (by simpa using hb) e) f0 f1 f3 f4 f5;refine⟨_,rfl,Ce (s:={ s with heap:=h',toks:=tk }) (n := "range_iterator") st' rfl rfl (by decide) ⟨.int (lo+i),H,I1,⟨t,?_⟩,⟨rfl,rfl⟩,st',fun b hb=>(hf b hb).1⟩⟩
  rw[k7]
 done:=by
  intro X hP hw hK hc i pins s σ H E I hf st hg;subst hP hw hK;obtain⟨f0,f1,f2,f3,f4,f5⟩:=hf it (by simp);exact wpAny_pyNext_range_end (I.ok.hd hc) st (by have:n<=i:=hg;omega) fun h' eb=>⟨rfl,I.turned (t':=s.toks) (fun b o hb e=>eb b o hb e) f0 f1 f3 f4 f5⟩
 self:=fun _ _ _ _ _ st h=>wpAny_pyIter_rangeiter st h
section
variable {X:Cx}{tg:Expr}
def Mt (K:ac)(tl:TE):TI:=fun σ H R=>tl σ H fun x H1=>∃ a,x = .ref a∧(∃ xs,SqL K H1 a xs)∧R (Itl K a) H1
def Sq (K:ac)(tl:TE):TI:=fun σ H R=>tl σ H fun x H1=>∃ a,x = .ref a∧(∃ xs,SqT K H1 a xs)∧R (Itt K a) H1
theorem bL {l:Expr}{tl:TE}(hl:PE X l tl):PI X tg l (Mt X.K tl):=by
 intro pins s σ H R I h;refine thn (hl pins s σ H _ I h) fun v s1 ⟨x,H1,I1,r1,q1⟩=>?_
 obtain⟨a,e,⟨xs,hq⟩,q⟩:=q1;subst e;cases r1;obtain⟨its,rv,p,hz⟩:=I1.list hq;refine wpAny_pyIter_list p.isList ?_;refine⟨s1.heap.objs.size,[s1.heap.objs.size],_,_,H1,rfl,I1.kept (t':=s1.toks) fun b o e=>Heap.get?_push_of_some _ e,tJ a _,⟨_,Heap.get?_push_size _ rfl,rfl,rfl⟩,fun b hb=>?_,q⟩;have e:b=s1.heap.objs.size:=by simpa using hb
 subst e;exact I1.fpOk (af _) (I1.hok.fresh (af _))
theorem uJ {l:Expr}{tl:TE}(hl:PE X l tl):PI X tg l (Sq X.K tl):=by
 intro pins s σ H R I h;refine thn (hl pins s σ H _ I h) fun v s1 ⟨x,H1,I1,r1,q1⟩=>?_
 obtain⟨a,e,⟨xs,hq⟩,q⟩:=q1;subst e;cases r1;obtain⟨its,rv,p,hz⟩:=I1.tuple hq;refine wpAny_pyIter_tuple (show s1.heap.IsTuple a its.toArray from p) ?_;refine⟨s1.heap.objs.size,[s1.heap.objs.size],_,_,H1,rfl,I1.kept (t':=s1.toks) fun b o e=>Heap.get?_push_of_some _ e,qT a _,⟨_,Heap.get?_push_size _ rfl,rfl,rfl⟩,fun b hb=>?_,q⟩;have e:b=s1.heap.objs.size:=by simpa using hb
 subst e;exact I1.fpOk (af _) (I1.hok.fresh (af _))
theorem Ii {pins:List (Addr×Obj)}{σ:St}{H:Hp}{s:Shared}{R:It->Hp->Prop}{E:Value->Shared->Prop}{lo hi:Int}{t u v:Tok}{tk:Nat}(I:Inv X pins σ H s)(h1 : -(2 ^ 62)<=lo)(h2:lo<2 ^ 62)(h3 : -(2 ^ 62)<=hi)(h4:hi<2 ^ 62)
  (q:R (Itr lo (hi-lo).toNat) H):wpAny (model X.prog X.w) X.A (pyIter (.ref s.heap.objs.size)) (PIE X pins σ tg R) E { s with heap:=s.heap.push { cls:=.type "range",data:=.fields #[.int lo t,.int hi u,.int 1 v] },toks:=tk }:=by
 refine wpAny_pyIter_range (IsRange.new ..) (small_one h1 h2 h3 h4) ?_;have I1:Inv X pins σ H { s with heap:=s.heap.push { cls:=.type "range",data:=.fields #[.int lo t,.int hi u,.int 1 v] },toks:=tk }:=I.kept fun b o e=>Heap.get?_push_of_some _ e
 refine⟨(s.heap.push { cls:=.type "range",data:=.fields #[.int lo t,.int hi u,.int 1 v] }).objs.size,[(s.heap.push { cls:=.type "range",data:=.fields #[.int lo t,.int hi u,.int 1 v] }).objs.size],_,_,H,rfl,
  I1.kept (t':=tk) fun b o e=>Heap.get?_push_of_some _ e,yR _ lo (hi-lo).toNat,?_,fun b hb=>?_,q⟩
 ·have e1:lo+((0:Nat):Int)*1=lo:=by simp
  have e2:(((hi-lo).toNat:Nat):Int)-((0:Nat):Int)=Builtin.Range.rangeSize lo hi 1:=by rw[rangeSize_one];split <;> omega
  show IsRangeIter _ _ (lo+((0:Nat):Int)*1) ((((hi-lo).toNat:Nat):Int)-((0:Nat):Int)) 1;rw[e1,e2];exact Heap.get?_push_size _ rfl
 ·have e:b=(s.heap.push { cls:=.type "range",data:=.fields #[.int lo t,.int hi u,.int 1 v] }).objs.size:=by simpa using hb
  subst e;exact I1.fpOk (af _) (I1.hok.fresh (af _))
def Qf (ta:TA):TI:=fun σ H R=>ta σ H fun vs H1=>∃ j:Int,vs=[.int j]∧-(2 ^ 62)<=j∧j<2 ^ 62∧R (Itr 0 j.toNat) H1
theorem gB {a:Expr}{ta:TA}{p pos:Pos}(hg:Gl X "range")(hm:X.mg "range" = none)(ha:PA X [a] ta)(hs:starEach [a] X.env=[(false,eval a X.env)]:=by rfl):PI X tg (.Call (.Name "range" p) [a] [] pos) (Qf ta):=by
 intro pins s σ H R I h;refine Call_ (jM I hg hm boot_range (d0 (thn (ha pos pins s σ H _ I h) fun us s1 ⟨vs,H1,I1,r1,q1⟩=>?_) hs rfl));obtain⟨j,e,q1,q2,q⟩:=q1;subst e
 cases r1 with
 | cons r rr =>
  cases rr;obtain⟨t,rfl⟩:=r;exact call_range_1 (Ii I1 (by omega) (by omega) q1 q2 (by simpa using q))
def Tj (wi:TI)(g:TG)(tb:TS):TS:=fun D σ H=>wi σ H fun J H1=>∃ W:Nat->Nat->St->Hp->Prop,(∃ m,W 0 m σ H1)∧∀ i m σ H,W i m σ H ->
 (J.stop i H∧D.nx σ H)∨(J.go i H∧∃ N:St->Hp->Prop,(∀ σ' H',N σ' H'->∃ m',m'<m∧W (i+1) m' σ' H')∧∀ x H',J.yld i H x H'->g x σ H' fun σ2 H2=>tb { D with nx:=N,ct:=N,bk:=D.nx } σ2 H2)
def jZ (fp:List Addr)(h:Heap):List (Addr×Obj):=fp.filterMap fun b=>(h.get? b).map fun o=>(b,o)
theorem cO {fp:List Addr}{h:Heap}{b:Addr}{o:Obj}(hb:b∈fp)(e:h.get? b=some o):(b,o)∈jZ fp h:=lu.mpr ⟨b,hb,by rw[e];rfl⟩
theorem Ex {fp:List Addr}{h:Heap}{p:Addr×Obj}(hp:p∈jZ fp h):p.1∈fp∧h.get? p.1=some p.2:=by
 obtain⟨b,hb,e⟩:=lu.mp hp
 cases q:h.get? b with
 | none=>rw[q] at e;cases e
 | some o =>
  rw[q] at e;have e':(b,o)=p:=a5 e;subst e';exact⟨hb,q⟩
theorem Inv.pinned {pins:List (Addr×Obj)}{σ:St}{H:Hp}{s:Shared}{fp:List Addr}(I:Inv X pins σ H s)(hf:∀ b∈fp,kI X pins H b)(ho:∀ b∈fp,∃ o,s.heap.get? b=some o∧∀ v,o.data≠.cell v):Inv X (pins++jZ fp s.heap) σ H s :=
 I.pins_of fun p hp=>(a6.mp hp).elim (fun z=>I.pin p (av _ z)) fun z=>by
  obtain⟨hb,e⟩:=Ex z;obtain⟨f0,f1,f2,_⟩:=hf p.1 hb;obtain⟨o,e',d⟩:=ho p.1 hb;rw[e] at e';cases e';exact⟨e,f0,f1,f2,d⟩
theorem Inv.unpinned {pins pl:List (Addr×Obj)}{σ:St}{H:Hp}{s:Shared}(I:Inv X (pins++pl) σ H s):Inv X pins σ H s:=I.pins_of fun p hp=>I.pin p (av _ (cn _ hp))
theorem bZ {iter:Expr}{body:List Stmt}{wi:TI}{g:TG}{tb:TS}{pos:Pos}(hp:PassesOwn (model X.prog X.w) X.A X.env X.xe)(hc:X.calm=true)(hi:PI X tg iter wi)(hg:PG X tg g)(hb:PSs X body tb)
  (hs:∀ x,foldedSetIterable iter X.env x=pure x:=by intro _;rfl):PS X (.For tg iter body [] pos) (Tj wi g tb):=by
 intro pins s σ H D I h;refine wpAny_For (thn (hi pins s σ H _ I h) fun v s1 h1=>thn h1 fun itv s2 h2=>?_) hs;obtain⟨it,fp,tn,J,H2,e,I2,T,st2,f2,W,⟨m0,w0⟩,turn⟩:=h2;subst e;have stat:∀ {H':Hp},(∀ b∈fp,H' b=none)->∀ b∈fp,kI X pins H' b:=fun hn b hb=>⟨hn b hb,(f2 b hb).2⟩
 refine codeAny_forLoop_any (fun n s'=>∃ i σ' H',Inv X pins σ' H' s'∧tn i s'.heap∧(∀ b∈fp,H' b=none)∧W i n σ' H') ?_ m0 ⟨0,σ,H2,I2,st2,fun b hb=>(f2 b hb).1,w0⟩;rintro n s3 ⟨i,σ3,H3,I3,st3,fr3,w3⟩;rcases turn i n σ3 H3 w3 with ⟨stop,qn⟩ | ⟨go,N,hN,step⟩
 ·refine wpAny_passesOwn hp (thn (T.done X rfl rfl rfl hc i pins s3 σ3 H3 X.xe I3 (stat fr3) st3 stop) fun r s4 ⟨hr,I4⟩=>?_)
  subst hr;exact wpAny_execs_nil ⟨σ3,H3,I4,qn⟩
 ·refine wpAny_passesOwn hp (thn (T.item X rfl rfl rfl hc i pins s3 σ3 H3 X.xe I3 (stat fr3) st3 go) fun r s4 ⟨u,hr,h4⟩=>?_)
  subst hr;refine wpAny_passesOwn hp (thn h4 fun _ s5 ⟨x,H5,I5,r5,y5,st5,fr5⟩=>?_);have I5':=I5.pinned (stat fr5) (T.obj _ _ st5);refine wpAny_passesOwn hp (thn (hg _ s5 σ3 H5 x u _ I5' r5 (step x H5 y5)) fun _ s6 ⟨σ6,H6,I6,q6⟩=>?_);refine wpAny_passesOwn hp (thn (hb _ s6 σ6 H6 _ I6 q6) fun f s7 q7=>?_);have again:∀ {σ7:St} {H7:Hp},Inv X (pins++jZ fp s5.heap) σ7 H7 s7->N σ7 H7->∃ m,m<n∧∃ i σ' H',Inv X pins σ' H' s7∧tn i s7.heap∧(∀ b∈fp,H' b=none)∧W i m σ' H':=fun {σ7 H7} I7 n7=>by
   obtain⟨m',hm,w7⟩:=hN σ7 H7 n7;refine⟨m',hm,i+1,σ7,H7,I7.unpinned,T.keep _ _ _ st5 fun b hb o e=>(I7.pin (b,o) (av _ (av _ (cO hb e)))).1,fun b hb=>?_,w7⟩;obtain⟨o,e,d⟩:=T.obj _ _ st5 b hb;exact (I7.pin (b,o) (av _ (av _ (cO hb e)))).2.1
  cases f with
  | next=>obtain⟨σ7,H7,I7,n7⟩:=q7;exact again I7 n7
  | cont=>obtain⟨σ7,H7,I7,n7⟩:=q7;exact again I7 n7
  | brk=>obtain⟨σ7,H7,I7,q7⟩:=q7;exact⟨σ7,H7,I7.unpinned,q7⟩
  | ret v=>obtain⟨x7,σ7,H7,I7,r7,q7⟩:=q7;exact⟨x7,σ7,H7,I7.unpinned,r7,q7⟩
end
theorem cD {K:ac}{a:Addr}{xs:List V}{g:TG}{tb:TS}{D:kU}{σ:St}{H:Hp}(Pv:Nat->St->Hp->Prop)(h0:Pv 0 σ H)(hl:∀ i σ H,i<=xs.length->Pv i σ H->SqL K H a xs)
  (hs:∀ i x σ H,xs[i]?=some x->Pv i σ H->g x σ H fun σ2 H2=>tb { D with nx:=Pv (i+1),ct:=Pv (i+1),bk:=D.nx } σ2 H2) (hd:∀ σ H,Pv xs.length σ H->D.nx σ H) :
  ∃ W:Nat->Nat->St->Hp->Prop,(∃ m,W 0 m σ H)∧∀ i m σ H,W i m σ H ->
   ((Itl K a).stop i H∧D.nx σ H)∨((Itl K a).go i H∧∃ N:St->Hp->Prop,(∀ σ' H',N σ' H'->∃ m',m'<m∧W (i+1) m' σ' H')∧∀ x H',(Itl K a).yld i H x H'->g x σ H' fun σ2 H2=>tb { D with nx:=N,ct:=N,bk:=D.nx } σ2 H2):=by
 refine⟨fun i m σ H=>m=xs.length-i∧i<=xs.length∧Pv i σ H,⟨xs.length,by simp,bi _,h0⟩,?_⟩;rintro i m σ H ⟨rfl,hi,p⟩;have q:=hl i σ H hi p;by_cases hlt:i<xs.length
 ·refine .inr ⟨⟨xs,xs[i],q,by simp[hlt]⟩,Pv (i+1),fun σ' H' p'=>⟨xs.length-(i+1),by omega,rfl,hlt,p'⟩,fun x H' y=>?_⟩
  obtain⟨e,y⟩:=y;subst e;exact hs i x σ _ (y xs q) p
 ·have e:i=xs.length:=by omega
  subst e;exact .inl ⟨⟨xs,q,af _⟩,hd σ H p⟩
theorem gA {lo:Int}{n:Nat}{g:TG}{tb:TS}{D:kU}{σ:St}{H:Hp}(Pv:Nat->St->Hp->Prop)(h0:Pv 0 σ H)
  (hs:∀ i σ H,i<n->Pv i σ H->g (.int (lo+i)) σ H fun σ2 H2=>tb { D with nx:=Pv (i+1),ct:=Pv (i+1),bk:=D.nx } σ2 H2) (hd:∀ σ H,Pv n σ H->D.nx σ H) :
  ∃ W:Nat->Nat->St->Hp->Prop,(∃ m,W 0 m σ H)∧∀ i m σ H,W i m σ H ->
   ((Itr lo n).stop i H∧D.nx σ H)∨((Itr lo n).go i H∧∃ N:St->Hp->Prop,(∀ σ' H',N σ' H'->∃ m',m'<m∧W (i+1) m' σ' H')∧∀ x H',(Itr lo n).yld i H x H'->g x σ H' fun σ2 H2=>tb { D with nx:=N,ct:=N,bk:=D.nx } σ2 H2):=by
 refine⟨fun i m σ H=>m=n-i∧i<=n∧Pv i σ H,⟨n,by simp,bi _,h0⟩,?_⟩;rintro i m σ H ⟨rfl,hi,p⟩;by_cases hlt:i<n
 ·refine .inr ⟨hlt,Pv (i+1),fun σ' H' p'=>⟨n-(i+1),by omega,rfl,hlt,p'⟩,fun x H' y=>?_⟩
  obtain⟨e,y⟩:=y;subst e y;exact hs i σ _ hlt p
 ·have e:i=n:=by omega
  subst e;exact .inl ⟨af _,hd σ H p⟩
abbrev R2:=V->V->Hp->VK->Prop
def OpR (X:Cx)(f:Value->Value->Sem Value)(r:R2):Prop :=
 ∀ (pins:List (Addr×Obj)) (s:Shared) (σ:St) (H:Hp) (x y:V) (v u:Value) (Q:VK),Inv X pins σ H s->bF x v->bF y u->r x y H Q ->
  wpAny (model X.prog X.w) X.A (f v u) (EP X pins σ Q) X.xe s
def UnR (X:Cx)(f:Value->Sem Value)(r:V->Hp->VK->Prop):Prop :=
 ∀ (pins:List (Addr×Obj)) (s:Shared) (σ:St) (H:Hp) (x:V) (v:Value) (Q:VK),Inv X pins σ H s->bF x v->r x H Q ->
  wpAny (model X.prog X.w) X.A (f v) (EP X pins σ Q) X.xe s
def dX (X:Cx)(f:Value)(r:List V->Hp->VK->Prop):Prop :=
 ∀ (pins:List (Addr×Obj)) (s:Shared) (σ:St) (H:Hp) (xs:List V) (us:List Value) (Q:VK),Inv X pins σ H s->bN xs us->r xs H Q ->
  wpAny (model X.prog X.w) X.A (call f us) (EP X pins σ Q) X.xe s
def tOp (r:R2)(ta tb:TE):TE:=fun σ H Q=>ta σ H fun x H1=>tb σ H1 fun y H2=>r x y H2 Q
def tUn (r:V->Hp->VK->Prop)(ta:TE):TE:=fun σ H Q=>ta σ H fun x H1=>r x H1 Q
def rI (C:Int->Int->Prop)(g:Int->Int->V):R2:=fun x y H Q=>∃ i j,x = .int i∧y = .int j∧C i j∧Q (g i j) H
def rI0 (g:Int->Int->V):R2:=fun x y H Q=>∃ i j,x = .int i∧y = .int j∧Q (g i j) H
def rU (g:Int->V):V->Hp->VK->Prop:=fun x H Q=>∃ i,x = .int i∧Q (g i) H
section
variable {X:Cx}{a b c:Expr}{ta tb tc:TE}{pos:Pos}
theorem Oe (ha:PE X a ta)(hb:PE X b tb){pins:List (Addr×Obj)}{s:Shared}{σ:St}{H:Hp}{R:V->V->Hp->Prop}(I:Inv X pins σ H s)
  (h:ta σ H fun x H1=>tb σ H1 fun y H2=>R x y H2) {Q:Value->Shared->Prop} {f:Value->Value->Sem Value}
  (hf:∀ v u s2 x y H2,Inv X pins σ H2 s2->bF x v->bF y u->R x y H2->wpAny (model X.prog X.w) X.A (f v u) Q X.xe s2) :
  wpAny (model X.prog X.w) X.A (eval a X.env) (fun v s₁=>wpAny (model X.prog X.w) X.A (eval b X.env) (fun u s₂=>wpAny (model X.prog X.w) X.A (f v u) Q X.xe s₂) X.xe s₁) X.xe s:=by
 refine thn (ha pins s σ H _ I h) fun v s1 ⟨x,H1,I1,r1,q1⟩=>?_
 refine thn (hb pins s1 σ H1 _ I1 q1) fun u s2 ⟨y,H2,I2,r2,q2⟩=>?_
 exact hf v u s2 x y H2 I2 r1 r2 q2
theorem aL {op:Operator}{r:R2}(ho:OpR X (binaryOp op) r)(ha:PE X a ta)(hb:PE X b tb):PE X (.BinOp a op b pos) (tOp r ta tb):=by
 intro pins s σ H Q I h;exact wpAny_BinOp (Oe ha hb I h fun v u s2 x y H2 I2 rx ry q=>ho pins s2 σ H2 x y v u Q I2 rx ry q)
theorem kD {op:UnaryOp}{r:V->Hp->VK->Prop}(ho:UnR X (unaryOp op) r)(ha:PE X a ta):PE X (.UnaryOp op a pos) (tUn r ta):=by
 intro pins s σ H Q I h;exact UnaryOp_ (thn (ha pins s σ H _ I h) fun v s1 ⟨x,H1,I1,r1,q1⟩=>ho pins s1 σ H1 x v Q I1 r1 q1)
theorem opI {f:Value->Value->Sem Value}{C:Int->Int->Prop}{g:Int->Int->Int}
  (rule:∀ (i j:Int) (t u:Tok) (s:Shared) (Q:Value->Shared->Prop) (E:Value->Shared->Prop),C i j->Q (.int (g i j) s.toks) { s with toks:=s.toks+1 }->wpAny (model X.prog X.w) X.A (f (.int i t) (.int j u)) Q E s) :
  OpR X f (rI C fun i j=>.int (g i j)):=by
 intro pins s σ H x y v u Q I rx ry h;obtain⟨i,j,rfl,rfl,hc,q⟩:=h;obtain⟨t,rfl⟩:=rx;obtain⟨t',rfl⟩:=ry;exact rule i j t t' s _ _ hc ⟨.int (g i j),H,I.tok _,⟨_,rfl⟩,q⟩
theorem Rw {f:Value->Value->Sem Value}{g:Int->Int->Int}
  (rule:∀ (i j:Int) (t u:Tok) (s:Shared) (Q:Value->Shared->Prop) (E:Value->Shared->Prop),Q (.int (g i j) s.toks) { s with toks:=s.toks+1 }->wpAny (model X.prog X.w) X.A (f (.int i t) (.int j u)) Q E s) :
  OpR X f (rI0 fun i j=>.int (g i j)):=by
 intro pins s σ H x y v u Q I rx ry h;obtain⟨i,j,rfl,rfl,q⟩:=h;obtain⟨t,rfl⟩:=rx;obtain⟨t',rfl⟩:=ry;exact rule i j t t' s _ _ ⟨.int (g i j),H,I.tok _,⟨_,rfl⟩,q⟩
theorem No {f:Value->Value->Sem Value}{g:Int->Int->Bool}
  (rule:∀ (i j:Int) (t u:Tok) (s:Shared) (Q:Value->Shared->Prop) (E:Value->Shared->Prop),Q (.bool (g i j)) s->wpAny (model X.prog X.w) X.A (f (.int i t) (.int j u)) Q E s) :
  OpR X f (rI0 fun i j=>.bl (g i j)):=by
 intro pins s σ H x y v u Q I rx ry h;obtain⟨i,j,rfl,rfl,q⟩:=h;obtain⟨t,rfl⟩:=rx;obtain⟨t',rfl⟩:=ry;exact rule i j t t' s _ _ ⟨.bl (g i j),H,I,rfl,q⟩
def Tf (i j:Int):Prop:=0<j∧j<1073741824
def Te (i j:Int):Prop:=0<=j∧j<=1000000∧i.natAbs<2 ^ 64
def Ow (i j:Int):Prop:=(-(2 ^ 64)<i∧i<2 ^ 64)∨(-(2 ^ 64)<j∧j<2 ^ 64)
theorem Ow.ok {i j:Int}(h:Ow i j):IntMulOk i j:=by
 rcases h with ⟨h1,h2⟩ | ⟨h1,h2⟩
 ·exact .of_left (intBits_le_64 h1 h2)
 ·exact .of_right (intBits_le_64 h1 h2)
theorem cU:OpR X (binaryOp .Add) (rI0 fun i j=>.int (i+j)):=Rw fun _ _ _ _ _ _ _ q=>add_int q
theorem jP:OpR X (binaryOp .Sub) (rI0 fun i j=>.int (i-j)):=Rw fun _ _ _ _ _ _ _ q=>sub_int q
theorem pU:OpR X (binaryOp .Mult) (rI Ow fun i j=>.int (i*j)):=opI fun _ _ _ _ _ _ _ hc q=>mul_int q hc.ok
theorem fZ:OpR X (binaryOp .FloorDiv) (rI Tf fun i j=>.int (i/j)):=opI fun i j _ _ _ _ _ hc q=>by
 have h1:(0:Int)<j:=hc.1;have h2:j<1073741824:=hc.2;exact floordiv_int (by omega) (by rw[lv i (by omega)];exact q) (.inl (PyProof.noPylong_small (by omega)))
theorem cK:OpR X (binaryOp .Mod) (rI (fun _ j=>0<j) fun i j=>.int (i % j)):=opI fun i j _ _ _ _ _ hc q=>by
 have h1:(0:Int)<j:=hc;exact mod_int' (by omega) (by rw[Int.fmod_eq_emod_of_nonneg i (by omega)];exact q)
theorem Fb:OpR X (binaryOp .Pow) (rI Te fun i j=>.int (i ^ j.toNat)):=opI fun _ _ _ _ _ _ _ hc q=>pow_int_small hc.1 hc.2.1 hc.2.2 q
theorem unI {f:Value->Sem Value}{g:Int->Int}
  (rule:∀ (i:Int) (t:Tok) (s:Shared) (Q:Value->Shared->Prop) (E:Value->Shared->Prop),Q (.int (g i) s.toks) { s with toks:=s.toks+1 }->wpAny (model X.prog X.w) X.A (f (.int i t)) Q E s) :
  UnR X f (rU fun i=>.int (g i)):=by
 intro pins s σ H x v Q I rx h;obtain⟨i,rfl,q⟩:=h;obtain⟨t,rfl⟩:=rx;exact rule i t s _ _ ⟨.int (g i),H,I.tok _,⟨_,rfl⟩,q⟩
theorem gI:UnR X (unaryOp .USub) (rU fun i=>.int (-i)):=unI fun _ _ _ _ _ q=>neg_int q
end
def Qn:V->V->Bool
 | .non,.non=>true | .non,.int _=>true | .int _,.non=>true | .non,.bl _=>true | .bl _,.non=>true | .non,.str _=>true | .str _,.non=>true
 | .int _,.int _=>true | .bl _,.bl _=>true | .str _,.str _=>true | .byt _,.byt _=>true
 | .int _,.str _=>true | .str _,.int _=>true | .bl _,.str _=>true | .str _,.bl _=>true
 | _,_=>false
def rEq:R2:=fun x y H Q=>Qn x y=true∧Q (.bl (decide (x=y))) H
def rNe:R2:=fun x y H Q=>Qn x y=true∧Q (.bl (!decide (x=y))) H
theorem pB {i j:Int}:decide (V.int i=V.int j)=(i==j):=by
 rw[ci];simp
theorem yW {i j:Bool}:decide (V.bl i=V.bl j)=(i==j):=by
 rw[ci];simp
theorem Ch {i j:Str}:decide (V.str i=V.str j)=(i==j):=by
 rw[ci];simp
theorem Ca {i j:Array UInt8}:decide (V.byt i=V.byt j)=(i.toList==j.toList):=by
 rw[ci];cases i;cases j;simp
section
variable {X:Cx}{a b c:Expr}{ta tb tc:TE}{pos:Pos}
theorem bS {pins:List (Addr×Obj)}{σ:St}{H:Hp}{s:Shared}{Q:VK}{k k':Bool}(I:Inv X pins σ H s)(q:Q (.bl k) H)(e:k=k'):EP X pins σ Q (.bool k') s:=by
 subst e;exact⟨.bl k,H,I,rfl,q⟩
theorem Ml:OpR X (compareOp .Eq) rEq:=by
 intro pins s σ H x y v u Q I rx ry h;obtain⟨hs,q⟩:=h
 cases x with
 | non =>
  cases rx
  cases y with
  | non=>cases ry;exact PySem.EqNone.eq_none_none (bS I q (by simp))
  | bl j=>cases ry;exact PySem.EqNone.eq_none_bool (bS I q (by simp))
  | int j=>obtain⟨t',rfl⟩:=ry;exact PySem.EqNone.eq_none_int (bS I q (by simp))
  | str j=>obtain⟨t',rfl⟩:=ry;exact PySem.EqNone.eq_none_str (bS I q (by simp))
  | _=>exact absurd (show false=true from hs) ak
 | bl i =>
  cases rx
  cases y with
  | non=>cases ry;exact PySem.EqNone.eq_bool_none (bS I q (by simp))
  | bl j=>cases ry;exact eq_bool (bS I q yW)
  | str j=>obtain⟨t',rfl⟩:=ry;exact sj (bS I q (by simp))
  | _=>exact absurd (show false=true from hs) ak
 | int i =>
  obtain⟨t,rfl⟩:=rx
  cases y with
  | non=>cases ry;exact PySem.EqNone.eq_int_none (bS I q (by simp))
  | int j=>obtain⟨t',rfl⟩:=ry;exact eq_int (bS I q pB)
  | str j=>obtain⟨t',rfl⟩:=ry;exact sw (bS I q (by simp))
  | _=>exact absurd (show false=true from hs) ak
 | str i =>
  obtain⟨t,rfl⟩:=rx
  cases y with
  | non=>cases ry;exact PySem.EqNone.eq_str_none (bS I q (by simp))
  | bl j=>cases ry;exact sr (bS I q (by simp))
  | int j=>obtain⟨t',rfl⟩:=ry;exact sx (bS I q (by simp))
  | str j=>obtain⟨t',rfl⟩:=ry;exact eq_str (bS I q Ch)
  | _=>exact absurd (show false=true from hs) ak
 | byt i =>
  obtain⟨t,rfl⟩:=rx
  cases y with
  | byt j=>obtain⟨t',rfl⟩:=ry;exact PySem.W.eq_bytes (bS I q Ca)
  | _=>exact absurd (show false=true from hs) ak
 | _=>cases y <;> exact absurd (show false=true from hs) ak
theorem Gm:OpR X (compareOp .NotEq) rNe:=by
 intro pins s σ H x y v u Q I rx ry h;obtain⟨hs,q⟩:=h
 cases x with
 | non =>
  cases rx
  cases y with
  | non=>cases ry;exact PySem.EqNone.ne_none_none (bS I q (by simp))
  | bl j=>cases ry;exact PySem.EqNone.ne_none_bool (bS I q (by simp))
  | int j=>obtain⟨t',rfl⟩:=ry;exact PySem.EqNone.ne_none_int (bS I q (by simp))
  | str j=>obtain⟨t',rfl⟩:=ry;exact PySem.EqNone.ne_none_str (bS I q (by simp))
  | _=>exact absurd (show false=true from hs) ak
 | bl i =>
  cases rx
  cases y with
  | non=>cases ry;exact PySem.EqNone.ne_bool_none (bS I q (by simp))
  | bl j=>cases ry;exact ne_bool (bS I q (congrArg not yW))
  | str j=>obtain⟨t',rfl⟩:=ry;exact su (bS I q (by simp))
  | _=>exact absurd (show false=true from hs) ak
 | int i =>
  obtain⟨t,rfl⟩:=rx
  cases y with
  | non=>cases ry;exact PySem.EqNone.ne_int_none (bS I q (by simp))
  | int j=>obtain⟨t',rfl⟩:=ry;exact ne_int (bS I q (congrArg not pB))
  | str j=>obtain⟨t',rfl⟩:=ry;exact sy (bS I q (by simp))
  | _=>exact absurd (show false=true from hs) ak
 | str i =>
  obtain⟨t,rfl⟩:=rx
  cases y with
  | non=>cases ry;exact PySem.EqNone.ne_str_none (bS I q (by simp))
  | bl j=>cases ry;exact sv (bS I q (by simp))
  | int j=>obtain⟨t',rfl⟩:=ry;exact tf (bS I q (by simp))
  | str j=>obtain⟨t',rfl⟩:=ry;exact ne_str (bS I q (congrArg not Ch))
  | _=>exact absurd (show false=true from hs) ak
 | byt i =>
  obtain⟨t,rfl⟩:=rx
  cases y with
  | byt j=>obtain⟨t',rfl⟩:=ry;exact PySem.W.ne_bytes (bS I q (congrArg not Ca))
  | _=>exact absurd (show false=true from hs) ak
 | _=>cases y <;> exact absurd (show false=true from hs) ak
theorem yH:OpR X (compareOp .Lt) (rI0 fun i j=>.bl (decide (i<j))):=No fun _ _ _ _ _ _ _ q=>lt_int q
theorem Rz:OpR X (compareOp .LtE) (rI0 fun i j=>.bl (decide (i<=j))):=No fun _ _ _ _ _ _ _ q=>le_int q
theorem kB:OpR X (compareOp .Gt) (rI0 fun i j=>.bl (decide (j<i))):=No fun _ _ _ _ _ _ _ q=>gt_int q
theorem wA:OpR X (compareOp .NotIn) (fun x y H Q=>∃ i j,x = .str i∧y = .str j∧Q (.bl (!(!(Builtin.Str.occurrences j i 0 j.length 1).isEmpty))) H):=by
 intro pins s σ H x y v u Q I rx ry h;obtain⟨i,j,rfl,rfl,q⟩:=h;obtain⟨t,rfl⟩:=rx;obtain⟨t',rfl⟩:=ry;exact notIn_str (bS I q rfl)
theorem aY (b:Expr){op:CmpOp}(h:op≠.In:=by decide)(h2:op≠.NotIn:=by decide):behindInMarks op b=false:=by
 have e1:(op==CmpOp.In)=false:=by cases op <;> first | rfl | exact absurd rfl h
 have e2:(op==CmpOp.NotIn)=false:=by cases op <;> first | rfl | exact absurd rfl h2
 cases b <;> simp[behindInMarks,e1,e2]
theorem pC {op:CmpOp}{r:R2}(ho:OpR X (compareOp op) r)(ha:PE X a ta)(hb:PE X b tb)(hm:behindInMarks op b=false):PE X (.Compare a [op] [b] pos) (tOp r ta tb):=by
 intro pins s σ H Q I h;exact wpAny_Compare1 (Oe ha hb I h fun v u s2 x y H2 I2 rx ry q=>ho pins s2 σ H2 x y v u Q I2 rx ry q) hm
def Sn (t:TE):TT:=fun σ H Q=>t σ H fun x H'=>∃ k,x = .bl k∧Q k H'
theorem aO {op:CmpOp}{r:R2}(ho:OpR X (compareOp op) r)(ha:PE X a ta)(hb:PE X b tb)(hm:behindInMarks op b=false):PT X (.Compare a [op] [b] pos) (Sn (tOp r ta tb)):=by
 intro pins s σ H Q I h;refine wpAny_isTrue_Compare1 (thn (ha pins s σ H _ I h) fun v s1 ⟨x,H1,I1,r1,q1⟩=>thn (hb pins s1 σ H1 _ I1 q1) fun u s2 ⟨y,H2,I2,r2,q2⟩ =>
  thn (ho pins s2 σ H2 x y v u _ I2 r1 r2 q2) fun c s3 ⟨z,H3,I3,r3,k,e,q3⟩=>?_) hm
 subst e;cases r3;exact wpAny_truthy_bool ⟨H3,I3,q3⟩
theorem pX:(sizeLine:Nat)<2 ^ 63:=by rw[sizeLine_eq];decide
theorem yI:OpR X (binaryOp .Add) (fun x y H Q=>∃ i j,x = .str i∧y = .str j∧i.length+j.length<=sizeLine∧Q (.str (i++j)) H):=by
 intro pins s σ H x y v u Q I rx ry h;obtain⟨i,j,rfl,rfl,hz,q⟩:=h;obtain⟨t,rfl⟩:=rx;obtain⟨t',rfl⟩:=ry;exact add_str (fun t' tk=>⟨.str (i++j),H,I.tok _,⟨_,rfl⟩,q⟩) hz
theorem fE {x:V}{us:List Value}(r:bN [x] us):∃ u,us=[u]∧bF x u:=by
 cases r with
 | cons r1 r2=>cases r2;exact⟨_,rfl,r1⟩
theorem Sk {x y:V}{us:List Value}(r:bN [x,y] us):∃ u w',us=[u,w']∧bF x u∧bF y w':=by
 cases r with
 | cons r1 r2 =>
  cases r2 with
  | cons r3 r4=>cases r4;exact⟨_,_,rfl,r1,r3⟩
theorem Gx:dX X (.builtin "abs") (fun xs H Q=>∃ i,xs=[.int i]∧Q (.int (if i<0 then -i else i)) H):=by
 intro pins s σ H xs us Q I r h;obtain⟨i,rfl,q⟩:=h;obtain⟨u,rfl,t,rfl⟩:=fE r;exact call_abs_int fun u tk=>⟨.int (if i<0 then -i else i),H,I.tok _,⟨_,rfl⟩,q⟩
end
structure Es (h:Heap)(x dx C:Addr)(mA:Str->Option Value):Prop where
 obj:h.get? x=some (gj C dx)
 ns:h.Ns1 dx mA
 ne:dx≠x
theorem Ef {h:Heap}{dx:Addr}{mA:Str->Option Value}(n:h.Ns1 dx mA):∃ od,h.get? dx=some od∧∀ name,ox name od=some (mA name):=by
 obtain⟨o,es,ep,ho,hd,hk,_,hm⟩:=n;refine⟨o,ho,fun name=>?_⟩;have e:=hm name;unfold nsFind findBy at e;rw[<- Array.find?_toList] at e;unfold ox;rw[hd]
 dsimp only
 split
 ·rename_i y q
  rw[q] at e;exact congrArg some e
 ·rename_i q
  rw[q] at e;have a:es.toList.any (·.refKey)=false:=by
   rw[List.any_eq_false];intro y hy;obtain⟨z,t,hkey⟩:=hk y (Array.mem_toList_iff.mp hy);simp[DictEntry.refKey,hkey]
  have a':¬ es.toList.any (·.refKey)=true:=by rw[a];exact ak
  rw[if_neg a'];exact congrArg some e
theorem Es.look {h:Heap}{x dx C:Addr}{mA:Str->Option Value}(I:Es h x dx C mA):∃ od,PySem.W.InstAt h x (gj C dx) C (some od)∧∀ name,ox name od=some (mA name) :=
 let ⟨od,ho,hl⟩:=Ef I.ns
 ⟨od,⟨I.obj,rfl,rfl,ho⟩,hl⟩
section
variable {prog:Program}{w:World}{A:Around}{E:Value->Shared->Prop}{s:Shared}{K:ac}{x dx C f:Addr}{mA:Str->Option Value}{name:Str}{v:Value}
theorem Lu {expr:Bool}{Q:Value->Shared->Prop}(X:K.In s.heap)(I:Es s.heap x dx C mA)(hg:kh K C name=true)(hh:jv K C=true)
  (ha:c6 K (.ref C) name=some none) (hv:mA name=some v) (hv':qt v=true) (h:Q v { s with toks:=s.toks+1 }) :
  wpAny (model prog w) A (getAttr (.ref x) name expr) Q E s:=by
 obtain⟨od,J,hl⟩:=I.look;exact PySem.W.get_value X J (PySem.W.plainGet_of hg).1 (PySem.W.findObj_own hh ha rfl (by rw[hl,hv])) hv' h
theorem Me {ns:List Str}{Q:Unit->Shared->Prop}(X:K.In s.heap)(I:Es s.heap x dx C mA)
  (hs:c6 K (.ref C) "__setattr__" = some (some (.builtin "object.__setattr__"))) (hp:mf K C=true) (ht:n8 K C name=some none) (hh:jv K C=true)
  (hw:qd mA ns) (hsz:ns.length<=sizeLine)
  (h:∀ h',Es h' x dx C (fun y=>if y=name then some v else mA y)->Heap.SameBut dx s.heap h'->Q () { s with heap:=h',toks:=s.toks+2 }) :
  wpAny (model prog w) A (setAttr (.ref x) name v) Q E s:=by
 obtain⟨od,J,hl⟩:=I.look;refine PySem.W.set_plain X J hs (PySem.W.osa_open (s:={ s with toks:=s.toks+1 }) (r:=none) X J hp ht fun b=>?_);obtain⟨cd,hc,hd'⟩:=PySem.W.any_some hh;have hx:s.heap.get? x=some ⟨.ref C,some dx,.plain,#[]⟩:=I.obj;refine wpAny_bind (wpAny_pure (wpAny_bind (wpAny_bind (wpAny_loadPart hx (wpAny_bind (uc (s:={ s with toks:=s.toks+1 }) (PySem.W.looks_clsIn X hc) ?_))))));rw[hd'];refine wpAny_pure (a:=some dx) (wpAny_bind (wpAny_pure (wpAny_bind ?_)));refine wpAny_nsSet1 (s:={ s with toks:=s.toks+1 }) I.ns fun h' hn2 hs2=>?_
 obtain⟨oD,esD,epD,hoD,hdD,hcD⟩:=hn2.count (PySem.Within.cons name v hw);refine wpAny_bind (wpAny_lookBehind hoD (by rw[hdD];exact pastItsLine_dict (a7 hcD (by rw[aw];omega))) ?_);exact wpAny_pure (h _ ⟨(hs2.2 _ (Ne.symm I.ne)).trans I.obj,hn2,I.ne⟩ hs2)
theorem Ge {R:Result->Shared->Prop}{vs:List Value}{kw:List (Str×Value)}(X:K.In s.heap)(hm:n9 K C=true)
  (hi:c6 K (.ref C) "__init__" = some (some (.ref f))) (hf:PySem.W.typeIn K (.ref f)=some (.type "function"))
  (h:codeAny (model prog w) (A.under (.builtin "type.__call__" ⟨.ref C::vs,kw⟩)) (.call (.ref f) ⟨.ref (s.heap.objs.size+1)::vs,kw⟩) (PySem.W.InitBack (s.heap.objs.size+1) R)
   { s with heap:=(s.heap.push er).push (gj C s.heap.objs.size) }) :
  codeAny (model prog w) A (.call (.ref C) ⟨vs,kw⟩) R s:=by
 obtain⟨hh,g,d,t,os⟩:=s;exact PySem.W.make_core (PySem.W.makes_of X hm) (PySem.W.looks_findIn X hi) (fun self=>PySem.W.bind_fn X self hf) (.inl rfl) h
end
def iS (f:Str)(v:V):List (Str×V)->List (Str×V)
 | []=>[(f,v)]
 | (g,x)::r=>if g=f then (g,v)::r else (g,x)::iS f v r
theorem gM (f g:Str)(v:V):∀ fs:List (Str×V),(iS f v fs).lookup g=if g=f then some v else fs.lookup g
 | []=>by
  show gd g [(f,v)]=_;by_cases h:g=f
  ·have hb:(g==f)=true:=beq_iff_eq.mpr h
   simp only [gd,hb,if_pos h]
  ·have hb:(g==f)=false:=beq_eq_false_iff_ne.mpr h
   simp only [gd,hb,if_neg h]
 | (k,x)::r=>by
  have ih:=gM f g v r;rw[show iS f v ((k,x)::r)=(if k=f then (k,v)::r else (k,x)::iS f v r) from rfl];by_cases hk:k=f
  ·rw[if_pos hk]
   by_cases h:g=k
   ·have hb:(g==k)=true:=beq_iff_eq.mpr h
    simp only [gd,hb,if_pos (h.trans hk)]
   ·have hb:(g==k)=false:=beq_eq_false_iff_ne.mpr h
    simp only [gd,hb,if_neg (fun e:g=f=>h (e.trans hk.symm))]
  ·rw[if_neg hk]
   by_cases h:g=k
   ·have hb:(g==k)=true:=beq_iff_eq.mpr h
    simp only [gd,hb,if_neg (fun e:g=f=>hk (h.symm.trans e))]
   ·have hb:(g==k)=false:=beq_eq_false_iff_ne.mpr h
    simp only [gd,hb];exact ih
theorem mV (f:Str)(v:V):∀ fs:List (Str×V),f∈(iS f v fs).map (·.1)∧∀ g,g∈fs.map (·.1)->g∈(iS f v fs).map (·.1)
 | []=>⟨by simp[iS],fun g h=>by simp at h⟩
 | (k,x)::r=>by
  obtain⟨i1,i2⟩:=mV f v r;rw[show iS f v ((k,x)::r)=(if k=f then (k,v)::r else (k,x)::iS f v r) from rfl];by_cases hk:k=f
  ·rw[if_pos hk]
   subst hk;exact⟨by simp,fun g h=>by simpa using h⟩
  ·rw[if_neg hk]
   refine⟨?_,fun g h=>?_⟩
   ·rw[a0]
    exact ai _ i1
   ·rw[a0] at h ⊢
    rcases au.mp h with e | e
    ·exact au.mpr (.inl e)
    ·exact ai _ (i2 g e)
theorem oH (f:Str)(v:V):∀ fs:List (Str×V),(iS f v fs).length<=fs.length+1
 | []=>by simp[iS]
 | (k,x)::r=>by
  have ih:=oH f v r;rw[show iS f v ((k,x)::r)=(if k=f then (k,v)::r else (k,x)::iS f v r) from rfl];by_cases hk:k=f
  ·rw[if_pos hk,aw,aw];omega
  ·rw[if_neg hk,aw,aw];omega
theorem iD.some_of {v:V}{o:Option Value}(r:iD (some v) o):∃ u,o=some u∧bF v u:=by
 cases o with
 | none=>exact (show False from r).elim
 | some u=>exact⟨u,rfl,r⟩
theorem iD.none_of {o:Option Value}(r:iD none o):o=none:=by
 cases o with
 | none=>rfl
 | some u=>exact (show False from r).elim
theorem Cw {v:V}{u:Value}(r:bF v u):qt u=true:=by
 cases v with
 | non=>cases (show u=Value.none from r);rfl
 | bl b=>cases (show u=Value.bool b from r);rfl
 | int i=>obtain⟨t,e⟩:=(show ∃ t,u=Value.int i t from r);cases e;rfl
 | str x=>obtain⟨t,e⟩:=(show ∃ t,u=Value.str x t from r);cases e;rfl
 | byt b=>obtain⟨t,e⟩:=(show ∃ t,u=Value.bytes b t from r);cases e;rfl
 | flt b=>obtain⟨t,e⟩:=(show ∃ t,u=Value.float b t from r);cases e;rfl
 | ref a=>cases (show u=Value.ref a from r);rfl
 | ty n=>cases (show u=Value.type n from r);rfl
section
variable {P:Program}{w:World}{H H':Hp}{h h':Heap}{a C dx:Addr}{fs fs':List (Str×V)}
theorem uE (hok:HOk P w H h)(e:H a=some (.ins C dx fs)):∃ mA,Es h a dx C mA∧(∀ f,iD (fs.lookup f) (mA f))∧qd mA (fs.map (·.1))∧fs.length<=1000∧H dx=some (.own a):=by
 obtain⟨d,z,ne,ob,mA,n,r,q⟩:=(show cJ P w H h a (.ins C dx fs) from hok a _ e);exact⟨mA,⟨ob,n,ne⟩,r,q,z,d⟩
end
structure Cls (K:ac)(C:Addr):Prop where
 pg:kh K C Str.empty=true
 hd:jv K C=true
 po:mf K C=true
 sa:c6 K (.ref C) "__setattr__" = some (some (.builtin "object.__setattr__"))
theorem Cls.get {K:ac}{C:Addr}(c:Cls K C)(f:Str):kh K C f=true:=c.pg
def kE (K:ac)(C:Addr)(f:Str):Prop:=c6 K (.ref C) f=some none
theorem kE.taker {K:ac}{C:Addr}{f:Str}(n:kE K C f):n8 K C f=some none:=by
 unfold n8;rw[show c6 K (.ref C) f=some none from n];rfl
section
variable {X:Cx}{pins:List (Addr×Obj)}{σ:St}{H:Hp}{s:Shared}{a C dx:Addr}{fs:List (Str×V)}{f:Str}{v:V}{A:Around}{E:Value->Shared->Prop}
theorem zT {b:Bool}{Q:Value->Shared->Prop}(I:Inv X pins σ H s)(e:H a=some (.ins C dx fs))(c:Cls X.K C)(n:kE X.K C f)(l:fs.lookup f=some v)
  (h:∀ u s',Inv X pins σ H s'->bF v u->Q u s'):wpAny (model X.prog X.w) A (getAttr (.ref a) f b) Q E s:=by
 obtain⟨mA,O,r,_,_,_⟩:=uE I.hok e;obtain⟨u,hu,ru⟩:=iD.some_of (v:=v) (o:=mA f) (by rw[<- l];exact r f);exact Lu I.kIn O (c.get f) c.hd n hu (Cw ru) (h u _ (I.tok _) ru)
theorem zY {y:V}{u:Value}{Q:Unit->Shared->Prop}(I:Inv X pins σ H s)(e:H a=some (.ins C dx fs))(c:Cls X.K C)(n:kE X.K C f)(hl:fs.length<1000)(ry:bF y u)
  (h:∀ s',Inv X pins σ (upd H a (.ins C dx (iS f y fs))) s'->Q () s'):wpAny (model X.prog X.w) A (setAttr (.ref a) f u) Q E s:=by
 obtain⟨mA,O,r,wi,_,ho⟩:=uE I.hok e;have hz:(fs.map (·.1)).length<=sizeLine:=by rw[aR,sizeLine_eq];omega
 refine Me I.kIn O c.sa c.po n.taker c.hd wi hz fun h' O' sb=>h _ ?_
 have hd:∃ o,h'.get? dx=some o:=let ⟨o,_,_,e',_⟩:=O'.ns;⟨o,e'⟩
 refine I.write (x:=a) (e:=dx) (by rw[e];exact True.intro) (.inr ho) (fun b q hb z=>(sb.2 b hb).trans z) hd ?_;refine⟨by rw[aH O.ne];exact ho,?_,O.ne,O'.obj,_,O'.ns,fun g=>?_,fun g hg=>?_⟩
 ·have:=oH f y fs;omega
 ·show iD ((iS f y fs).lookup g) (if g=f then some u else mA g)
  rw[gM];by_cases q:g=f
  ·rw[if_pos q,if_pos q];exact ry
  ·rw[if_neg q,if_neg q];exact r g
 ·by_cases q:g=f
  ·rw[q];exact (mV f y fs).1
  ·refine (mV f y fs).2 g (wi g fun z=>hg ?_)
   show (if g=f then some u else mA g)=none;rw[if_neg q];exact z
theorem Inv.made (I:Inv X pins σ H s):Inv X pins σ (upd (upd H s.heap.objs.size (.own (s.heap.objs.size+1))) (s.heap.objs.size+1) (.ins C s.heap.objs.size []))
  { s with heap:=(s.heap.push er).push (gj C s.heap.objs.size) }:=by
 have e1:(s.heap.push er).get? s.heap.objs.size=some er:=Heap.get?_push_size s.heap rfl;have e2:((s.heap.push er).push (gj C s.heap.objs.size)).get? (s.heap.objs.size+1)=some (gj C s.heap.objs.size):=by
  have:=Heap.get?_push_size (s.heap.push er) (o:=gj C s.heap.objs.size) rfl
  rwa [Heap.size_push] at this
 have e3:(s.heap.push er).Ns s.heap.objs.size (fun _=>none):=⟨er,#[],_,e1,rfl,(fun e he=>absurd he (by simp)),fun _=>rfl⟩;have I1:=I.laid (a:=s.heap.objs.size) (o:=.own (s.heap.objs.size+1)) (h':=s.heap.push er) (t':=s.toks) (fun b u q=>Heap.get?_push_of_some _ q) (af _) ⟨_,e1⟩;refine I1.laid (a:=s.heap.objs.size+1) (o:=.ins C s.heap.objs.size []) (t':=s.toks) (fun b u q=>Heap.get?_push_of_some _ q) (lm (Heap.size_push _ _)) ?_;have ne:s.heap.objs.size≠s.heap.objs.size+1:=ay (gu _);refine⟨by rw[aH ne,aB],bi _,ne,e2,fun _=>none,(Heap.Ns1.of_empty e3).at fun o q=>Heap.get?_push_of_some _ q,fun _=>True.intro,fun y hy=>absurd rfl hy⟩
theorem Kd {prog:Program}{w:World}{env:Env}{e:Expr}{f:Str}{pos:Pos}{s:Shared}{Q:Value->Shared->Prop}(hb:attributeBase e f env (eval e env)=eval e env)
  (h:wpAny (model prog w) A (eval e env) (fun o s₁=>wpAny (model prog w) A (getAttr o f true) Q E s₁) E s):wpAny (model prog w) A (eval (.Attribute e f pos) env) Q E s :=
 Attribute_any_ h (by rw[arm_eval_Attribute,hb])
end
def Ro (K:ac)(ta:TE)(f:Str):TE:=fun σ H Q=>ta σ H fun x H1=>∃ a C dx fs v,x = .ref a∧H1 a=some (.ins C dx fs)∧Cls K C∧kE K C f∧fs.lookup f=some v∧Q v H1
def Tn (K:ac)(ta tv:TE)(f:Str):TS:=fun D σ H=>tv σ H fun y H1=>ta σ H1 fun x H2=>∃ a C dx fs,x = .ref a∧H2 a=some (.ins C dx fs)∧Cls K C∧kE K C f∧fs.length<1000 ∧
 D.nx σ (upd H2 a (.ins C dx (iS f y fs)))
section
variable {X:Cx}{o e value:Expr}{f:Str}{pos pos' tpos:Pos}{ta tv:TE}
theorem rC (he:PE X e ta)(hb:attributeBase e f X.env (eval e X.env)=eval e X.env):PE X (.Attribute e f pos) (Ro X.K ta f):=by
 intro pins s σ H Q I h;refine Kd hb (thn (he pins s σ H _ I h) fun u s1 ⟨x,H1,I1,rx,a,C,dx,fs,v,ex,ea,c,n,l,q⟩=>?_);subst ex;obtain rfl:u=Value.ref a:=rx;exact zT I1 ea c n l fun u' s2 I2 ru=>⟨v,H1,I2,ru,q⟩
theorem Jm (ha:PE X o ta)(hv:PE X value tv)(hs:swapsWith value (some (.Attribute o f pos')) pos.line X.env=pure false):PS X (.Assign [.Attribute o f pos'] value pos) (Tn X.K ta tv f):=by
 intro pins s σ H D I h;refine plainObj_wpAny_Assign_Attribute (thn (hv pins s σ H _ I h) fun u s1 ⟨y,H1,I1,ry,q⟩=>thn (ha pins s1 σ H1 _ I1 q) fun ov s2 ⟨x,H2,I2,rx,a,C,dx,fs,ex,ea,c,n,l,q2⟩=>?_) hs;subst ex;obtain rfl:ov=Value.ref a:=rx;exact zY I2 ea c n l ry fun s3 I3=>⟨σ,_,I3,q2⟩
end
section
variable {X:Cx}{pins:List (Addr×Obj)}{σ:St}{H:Hp}{s:Shared}{A:Around}{E:Value->Shared->Prop}{Q:Value->Shared->Prop}{c:Value}{b:Bool}
inductive nR (K:ac)(H:Hp):V->Value->Prop where
 | non:nR K H .non (.type "NoneType")
 | bl (x:Bool):nR K H (.bl x) (.type "bool")
 | int (i:Int):nR K H (.int i) (.type "int")
 | str (x:Str):nR K H (.str x) (.type "str")
 | flt (x:UInt64):nR K H (.flt x) (.type "float")
 | lst {a:Addr} {xs:List V} (e:H a=some (.lst xs)):nR K H (.ref a) (.type "list")
 | frz {a:Addr} {o:Obj} {xs:List V} (e:H a=some (.frz o (.lst xs))):nR K H (.ref a) (.type "list")
 | tup {a:Addr} {xs:List V} (e:H a=some (.tup xs)):nR K H (.ref a) (.type "tuple")
 | dK {a:Addr} {kvs:List (Key×V)} (e:H a=some (.dK kvs)):nR K H (.ref a) (.type "dict")
 | dT {a:Addr} {kvs:List (List Key×V)} (e:H a=some (.dT kvs)):nR K H (.ref a) (.type "dict")
 | ins {a C dx:Addr} {fs:List (Str×V)} (e:H a=some (.ins C dx fs)) (cl:Cls K C) (ha:c6 K (.ref C) "__class__" = some (some (.builtin "object.__class__")))
  (hn:mh K (.builtin "object.__class__") "__get__" = some (some (.builtin "getset_descriptor.__get__"))) (htk:oa K (.builtin "object.__class__")=some true)
  (hm:ku K C (.type "object")=some true):nR K H (.ref a) (.ref C)
theorem Cn {x:V}{u t:Value}(I:Inv X pins σ H s)(rx:bF x u)(ty:nR X.K H x t)(e:lw X.K t c=some b)(h:∀ tk,Q (.bool b) { s with toks:=tk }) :
  wpAny (model X.prog X.w) A (call (.builtin "isinstance") [u,c]) Q E s:=by
 cases ty with
 | non=>cases (show u=Value.none from rx);exact ef PySem.W.kitx_none I.kIn True.intro e (fun z=>nomatch z) h
 | bl y=>cases (show u=Value.bool y from rx);exact ef PySem.W.kitx_bool I.kIn True.intro e (fun z=>nomatch z) h
 | int i=>obtain⟨t,q⟩:=(show ∃ t,u=Value.int i t from rx);cases q;exact ef PySem.W.kitx_int I.kIn True.intro e (fun z=>nomatch z) h
 | str y=>obtain⟨t,q⟩:=(show ∃ t,u=Value.str y t from rx);cases q;exact ef PySem.W.kitx_str I.kIn True.intro e (fun z=>nomatch z) h
 | flt y=>obtain⟨t,q⟩:=(show ∃ t,u=Value.float y t from rx);cases q;exact ef PySem.W.kitx_float I.kIn True.intro e (fun z=>nomatch z) h
 | @lst a xs ea =>
  cases (show u=Value.ref a from rx);obtain⟨_,_,n,_,h1⟩:=(show cJ X.prog X.w H s.heap a (.lst xs) from I.hok a _ ea);exact ef qe I.kIn ⟨_,h1,rfl⟩ e (fun z=>nomatch z) h
 | @frz a ob xs ea =>
  cases (show u=Value.ref a from rx);obtain⟨_,_,_,n,_,h1⟩:=(show cJ X.prog X.w H s.heap a (.frz ob (.lst xs)) from I.hok a _ ea);exact ef qe I.kIn ⟨_,h1,rfl⟩ e (fun z=>nomatch z) h
 | @tup a xs ea =>
  cases (show u=Value.ref a from rx);obtain⟨_,_,_,p⟩:=(show cJ X.prog X.w H s.heap a (.tup xs) from I.hok a _ ea);obtain⟨o,h1,h2,_⟩:=p;exact ef PySem.W.kitx_tuple I.kIn ⟨o,h1,h2⟩ e (fun z=>nomatch z) h
 | @dK a kvs ea =>
  cases (show u=Value.ref a from rx);obtain⟨_,_,vs,_,p⟩:=(show cJ X.prog X.w H s.heap a (.dK kvs) from I.hok a _ ea);obtain⟨o,es,ep,h1,h2,_⟩:=p;exact ef qf I.kIn ⟨o,h1,h2.1⟩ e (fun z=>nomatch z) h
 | @dT a kvs ea =>
  cases (show u=Value.ref a from rx);obtain⟨_,_,xs,_,o,es,ep,h1,h2,_⟩:=(show cJ X.prog X.w H s.heap a (.dT kvs) from I.hok a _ ea);exact ef qf I.kIn ⟨o,h1,h2.1⟩ e (fun z=>nomatch z) h
 | @ins a C dx fs ea cl ha hn htk hm =>
  cases (show u=Value.ref a from rx);obtain⟨mA,O,_⟩:=uE I.hok ea;obtain⟨od,J,_⟩:=O.look;exact ef (PySem.W.kitx_own (cl.get _) cl.hd ha hn htk hm) I.kIn J e (fun z=>nomatch z) h
end
structure fI (k:Nat)(A:Around):Prop where
 hd:A.handled=none
 dp:A.depth+3*k+5<recursionLimit
 un:A.units+16*k+200<cLine
theorem fI.mono {j k:Nat}{A:Around}(r:fI k A)(h:j<=k):fI j A:=⟨r.hd,by have:=r.dp;omega,by have:=r.un;omega⟩
theorem fI.deeper {k:Nat}{A:Around}(r:fI (k+1) A)(env:Env):fI k (A.deeper env) :=
 ⟨r.hd,by have:=r.dp;show A.depth+1+3*k+5<_;omega,by have:=r.un;show A.units+3+16*k+200<_;omega⟩
theorem zK {A:Around}{C:Addr}{us:List Value}{kw:List (Str×Value)}:(A.under (.builtin "type.__call__" ⟨.ref C::us,kw⟩)).depth=A.depth+1:=by
 first | rfl | simp[Around.under,Code.weight,Code.isCreation,Code.isGuard,Code.isCaller,Code.frames,Code.isFrame,guardIds]
theorem yJ {A:Around}{C:Addr}{us:List Value}{kw:List (Str×Value)}:(A.under (.builtin "type.__call__" ⟨.ref C::us,kw⟩)).units=A.units+1:=by
 first | rfl | simp[Around.under,Code.cUnits,Code.frames,Code.isFrame]
theorem fI.make {k:Nat}{A:Around}(r:fI (k+1) A)(C:Addr)(us:List Value)(kw:List (Str×Value)):fI k (A.under (.builtin "type.__call__" ⟨.ref C::us,kw⟩)) :=
 ⟨r.hd,by have:=r.dp;rw[zK];omega,by have:=r.un;rw[yJ];omega⟩
theorem fI.depth {k:Nat}{A:Around}(r:fI k A):A.depth<recursionLimit:=by have:=r.dp;omega
theorem fI.units {k:Nat}{A:Around}(r:fI k A):A.units+64<cLine:=by have:=r.un;omega
def Qh:TA:=fun _ H Q=>Q [] H
def qD (ta:TE)(tr:TA):TA:=fun σ H Q=>ta σ H fun x H1=>tr σ H1 fun xs H2=>Q (x::xs) H2
section
variable {X:Cx}{e:Expr}{es:List Expr}{te:TE}{t:TA}{pos:Pos}
theorem aD:PA X [] Qh:=fun _ _ _ _ H Q I h=>Calls.spliced_nil ⟨[],H,I,.nil,h⟩
theorem aA (ha:PE X e te)(hr:PA X es t)(hs:starEach (e::es) X.env=(false,eval e X.env)::starEach es X.env:=by rfl):PA X (e::es) (qD te t):=by
 intro pos pins s σ H Q I h;rw[hs];show wpAny _ _ (spliced ((false,eval e X.env)::backTo pos (starEach es X.env))) _ _ s;refine Calls.spliced_cons (thn (ha pins s σ H _ I h) fun u s1 ⟨x,H1,I1,r1,q1⟩=>?_);exact thn (hr pos pins s1 σ H1 _ I1 q1) fun us s2 ⟨xs,H2,I2,r2,q2⟩=>⟨x::xs,H2,I2,.cons r1 r2,q2⟩
def Ql (t:TA):TE:=fun σ H Q=>t σ H fun xs H1=>xs.length<=sizeLine∧∀ p,H1 p=none->Q (.ref p) (upd H1 p (.tup xs))
def Ts (t:TA):TE:=fun σ H Q=>t σ H fun xs H1=>xs.length<=sizeLine∧∀ p,H1 p=none->Q (.ref p) (upd H1 p (.lst xs))
theorem Pt {x1}(h:PA X es t):PE X (.Tuple es x1 pos) (Ql t):=by
 intro pins s σ H Q I hq;refine wpAny_Tuple_spliced (thn (h pos pins s σ H _ I hq) fun us s1 ⟨xs,H1,I1,r,z,q⟩=>⟨by rw[<- r.length];exact z,?_⟩);have hf:H1 s1.heap.objs.size=none:=I1.hok.fresh (af _);refine⟨.ref s1.heap.objs.size,upd H1 s1.heap.objs.size (.tup xs),I1.laid (t':=s1.toks) (fun b u e=>Heap.get?_push_of_some _ e) (af _) ?_,rfl,q _ hf⟩;exact⟨z,us,r,⟨_,Heap.get?_push_size _ rfl,rfl,_,rfl⟩⟩
theorem bT (h:PA X es t):PE X (.List es pos) (Ts t):=by
 intro pins s σ H Q I hq;refine wpAny_List_spliced (thn (h pos pins s σ H _ I hq) fun us s1 ⟨xs,H1,I1,r,z,q⟩=>⟨by rw[<- r.length];exact z,?_⟩);have hf:H1 s1.heap.objs.size=none:=I1.hok.fresh (af _);refine⟨.ref s1.heap.objs.size,upd H1 s1.heap.objs.size (.lst xs),I1.laid (t':=s1.toks) (fun b u e=>Heap.get?_push_of_some _ e) (af _) ?_,rfl,q _ hf⟩;exact⟨z,us,0,r,Heap.get?_push_size _ rfl⟩
end
abbrev Sp:=List V->Hp->VK->XK->Prop
abbrev CXT:=List Env->Hp->Shared->XK->Value->Shared->Prop
structure zI (P:Program)(w:World)(K:ac)(mg:Str->Option Value)(base:Heap)(A:Around)(outer:List Env)(s:Shared)(H:Hp):Prop where
 frames:A.frames=some outer
 mod:Mod K mg base
 bs:∀ b o,base.get? b=some o->s.heap.get? b=some o∧H b=none
 bsz:base.objs.size<=s.heap.objs.size
 funs:s.heap.FunFrames base outer
 frf:∀ b∈frs outer,H b=none
 hok:HOk P w H s.heap
 bare:AllBare s.gens
def CE (outer:List Env)(P:Program)(w:World)(H:Hp)(s:Shared)(Q:VK)(u:Value)(s':Shared):Prop :=
 ∃ v H',s'.os=s.os∧AllBare s'.gens∧Un (frs outer) [] H H' s.heap s'.heap∧HOk P w H' s'.heap∧bF v u∧Q v H'
def CR (CX:CXT)(outer:List Env)(P:Program)(w:World)(H:Hp)(s:Shared)(Q:VK)(E:XK)(r:Result)(s':Shared):Prop :=
 match r with
 | .ok (.ret u)=>CE outer P w H s Q u s'
 | .ok _=>False
 | .error e=>CX outer H s E e s'
structure cN (P:Program)(w:World)(K:ac)(mg:Str->Option Value)(base:Heap)(CX:CXT)(k:Nat)(f:Addr)(fd:FuncData)(ps:List Str)(sp:Sp):Prop where
 len:∀ vs H Q E,sp vs H Q E->vs.length=ps.length
 run:∀ (A:Around) (outer:List Env) (s:Shared) (H:Hp) (args:Args) (us:List Value) (vs:List V) (Q:VK) (E:XK),fI k A->zI P w K mg base A outer s H->BindsTo s fd args (ps.zip us)->bN vs us->sp vs H Q E ->
  codeAny (model P w) A (.call (.ref f) args) (CR CX outer P w H s Q E) s
theorem zI.make {P:Program}{w:World}{K:ac}{mg:Str->Option Value}{base:Heap}{A:Around}{outer:List Env}{s:Shared}{H:Hp}(e:zI P w K mg base A outer s H)(C:Addr)(us:List Value)(kw:List (Str×Value)) :
 zI P w K mg base (A.under (.builtin "type.__call__" ⟨.ref C::us,kw⟩)) outer s H:=⟨by first | exact e.frames | (simpa [Around.under,Code.envs,Code.isFrame,pushEnvs] using e.frames),e.mod,e.bs,e.bsz,e.funs,e.frf,e.hok,e.bare⟩
section
variable {X:Cx}{pins:List (Addr×Obj)}{σ:St}{H:Hp}{s s':Shared}
theorem Inv.env0 (I:Inv X pins σ H s):zI X.prog X.w X.K X.mg X.base X.A X.stack s H :=
 ⟨I.ok.frames,I.ok.mod,I.bs,a7 I.ok.bsz I.sz,I.stack,I.stkFree,I.hok,I.bare⟩
theorem Inv.after {Q:VK}{u:Value}(I:Inv X pins σ H s)(h:CE X.stack X.prog X.w H s Q u s'):EP X pins σ Q u s':=by
 obtain⟨v,H',os,bare,un,hok,r,q⟩:=h;obtain⟨hh,g,d,t,os'⟩:=s';obtain rfl:os'=s.os:=os;exact⟨v,H',I.call (h':=hh) (g':=g) (d':=d) (t':=t) (ch:=[]) un hok bare (fun b z=>absurd z (by simp)),r,q⟩
end
def Na (sp:Sp)(dvs:List V)(E:XK)(t:TA):TE:=fun σ H Q=>t σ H fun vs H1=>sp (vs++dvs) H1 Q E
def Nb (C:Addr)(sp:Sp)(dvs:List V)(E:XK)(t:TA):TE:=fun σ H Q=>t σ H fun vs H1=>∀ x dx,H1 x=none->H1 dx=none->dx≠x ->
 sp (.ref x::(vs++dvs)) (upd (upd H1 dx (.own x)) x (.ins C dx [])) (fun v H2=>v = .non∧Q (.ref x) H2) E
def lI (K:ac)(fd:FuncData)(ps:List Str)(ds:List Value):Prop :=
 ∀ (s:Shared) (us:List Value),K.In s.heap->(us++ds).length=ps.length->BindsTo s fd ⟨us,[]⟩ (ps.zip (us++ds))
theorem lI.all {K:ac}{fd:FuncData}{ps:List Str}(h:∀ us:List Value,us.length=ps.length->bindArgs fd ⟨us,[]⟩=pure (ps.zip us)):lI K fd ps []:=fun s us _ hl=>by
 rw[dy] at hl ⊢;exact .of_eq (h us hl)
def jY (CX:CXT)(X:Cx)(E:XK):Prop:=∀ (pins:List (Addr×Obj)) (σ:St) (H:Hp) (s:Shared) (e:Value) (s':Shared),Inv X pins σ H s->CX X.stack H s E e s'->X.xe e s'
section
variable {X:Cx}{CX:CXT}{k:Nat}{f C:Addr}{fd:FuncData}{ps:List Str}{sp:Sp}{dvs:List V}{ds:List Value}{E:XK}{x m:Str}{p pos apos:Pos}{e o:Expr}{es:List Expr}{ta:TE}{t:TA}
theorem Nq {pins:List (Addr×Obj)}{σ:St}{H:Hp}{s:Shared}{Q:VK}{us:List Value}{vs:List V}(F:cN X.prog X.w X.K X.mg X.base CX k f fd ps sp)(hr:fI k X.A)(hb:lI X.K fd ps ds)(hd:bN dvs ds)(hx:jY CX X E)
  (I:Inv X pins σ H s) (r:bN vs us) (h:sp (vs++dvs) H Q E):wpAny (model X.prog X.w) X.A (call (.ref f) us) (EP X pins σ Q) X.xe s:=by
 have r2:bN (vs++dvs) (us++ds):=r.append hd;have hl:(us++ds).length=ps.length:=by rw[<- r2.length];exact F.len _ _ _ _ h
 refine wpAny_call (codeAny_mono (F.run X.A X.stack s H ⟨us,[]⟩ (us++ds) (vs++dvs) Q E hr I.env0 (hb s us I.kIn hl) r2 h) fun r s' hq=>?_)
 cases r with
 | error e=>exact hx pins σ H s e s' I hq
 | ok fl =>
  cases fl with
  | ret u=>exact I.after hq
  | next=>exact False.elim hq
  | brk=>exact False.elim hq
  | cont=>exact False.elim hq
theorem Mh (F:cN X.prog X.w X.K X.mg X.base CX k f fd ps sp)(hr:fI k X.A)(hg:Gl X x)(hm:X.mg x=some (.ref f))(hk:ff X.K (.ref f)=true)(hb:lI X.K fd ps ds)(hd:bN dvs ds)(hx:jY CX X E)
  (ha:PA X (e::es) t) (hdb:(x==("__debug__" : Str))=false:=by decide) (he:starEach (e::es) X.env=(false,eval e X.env)::starEach es X.env:=by rfl) (hpl:(backTo pos (starEach es X.env)).any (·.1)=false:=by rfl) :
  PE X (.Call (.Name x p) (e::es) [] pos) (Na sp dvs E t):=by
 intro pins s σ H Q I h;refine wpAny_Call_Name_kw (oZ I hg hm ?_ hdb);refine pp (h₀:=X.base) I.ok.mod.kin hk (thn (ha pos pins s σ H _ I h) fun us s1 ⟨vs,H1,I1,r,q⟩=>⟨I1.kIn,?_⟩) he hpl;exact Nq F hr hb hd hx I1 r q
structure Mk (K:ac)(C f:Addr):Prop where
 makes:n9 K C=true
 init:c6 K (.ref C) "__init__" = some (some (.ref f))
 fn:tw K (.ref f)=true
 kp:ff K (.ref C)=true
theorem Jk {pins:List (Addr×Obj)}{σ:St}{H:Hp}{s:Shared}{Q:VK}{us:List Value}{vs:List V}(M:Mk X.K C f)(F:cN X.prog X.w X.K X.mg X.base CX k f fd ps sp)(hr:fI (k+1) X.A)(hb:lI X.K fd ps ds)(hd:bN dvs ds)
  (hx:jY CX X E) (I:Inv X pins σ H s) (r:bN vs us)
  (h:∀ x dx,H x=none->H dx=none->dx≠x->sp (.ref x::(vs++dvs)) (upd (upd H dx (.own x)) x (.ins C dx [])) (fun v H2=>v = .non∧Q (.ref x) H2) E) :
  wpAny (model X.prog X.w) X.A (call (.ref C) us) (EP X pins σ Q) X.xe s:=by
 have hq:=h (s.heap.objs.size+1) s.heap.objs.size (I.hok.fresh (gr _)) (I.hok.fresh (af _)) (ay (gu _));have I2:=Inv.made (C:=C) I;have r2:bN (V.ref (s.heap.objs.size+1)::(vs++dvs)) (Value.ref (s.heap.objs.size+1)::(us++ds)):=.cons rfl (r.append hd);have hl:(Value.ref (s.heap.objs.size+1)::us++ds).length=ps.length:=by
  have e:=r2.length;rw[F.len _ _ _ _ hq] at e;exact e.symm
 refine wpAny_call (Ge (f:=f) I.kIn M.makes M.init (beq_iff_eq.mp M.fn) (codeAny_mono (F.run _ X.stack _ _ ⟨Value.ref (s.heap.objs.size+1)::us,[]⟩ (Value.ref (s.heap.objs.size+1)::(us++ds)) _ _ E (hr.make C us [])
  (I2.env0.make C us []) (hb _ (Value.ref (s.heap.objs.size+1)::us) I2.kIn hl) r2 hq) fun r s' hq'=>?_))
 cases r with
 | error e=>exact hx pins σ _ _ e s' I2 hq'
 | ok fl =>
  cases fl with
  | ret u =>
   obtain⟨v,H',I3,rv,ev,q3⟩:=I2.after hq';subst ev;exact⟨rv,⟨V.ref (s.heap.objs.size+1),H',I3,rfl,q3⟩⟩
  | next=>exact False.elim hq'
  | brk=>exact False.elim hq'
  | cont=>exact False.elim hq'
theorem Lh (M:Mk X.K C f)(F:cN X.prog X.w X.K X.mg X.base CX k f fd ps sp)(hr:fI (k+1) X.A)(hg:Gl X x)(hm:X.mg x=some (.ref C))(hb:lI X.K fd ps ds)(hd:bN dvs ds)(hx:jY CX X E)
  (ha:PA X (e::es) t) (hdb:(x==("__debug__" : Str))=false:=by decide) (he:starEach (e::es) X.env=(false,eval e X.env)::starEach es X.env:=by rfl) (hpl:(backTo pos (starEach es X.env)).any (·.1)=false:=by rfl) :
  PE X (.Call (.Name x p) (e::es) [] pos) (Nb C sp dvs E t):=by
 intro pins s σ H Q I h;refine wpAny_Call_Name_kw (oZ I hg hm ?_ hdb);refine pp (h₀:=X.base) I.ok.mod.kin M.kp (thn (ha pos pins s σ H _ I h) fun us s1 ⟨vs,H1,I1,r,q⟩=>⟨I1.kIn,?_⟩) he hpl;exact Jk M F hr hb hd hx I1 r q
end
section
variable {X:Cx}{CX:CXT}{k:Nat}{f C:Addr}{fd:FuncData}{ps ks:List Str}{sp:Sp}{E:XK}{x m:Str}{p pos apos kpos:Pos}{e o:Expr}{es:List Expr}{kws:List Keyword}{te ta:TE}{t tk:TA}{nm:Option Str}
variable {g:List Value->List Value->List Value}{gV:List V->List V->List V}
end
structure aW (N P:List Str)(sc:Scope):Prop where
 kind:sc.kind = .function
 co:sc.isCoroutine=false
 gen:sc.isGenerator=false
 nd:N.Nodup
 pre:N.take P.length=P
 par:∀ x∈P,sc.names.lookup x=some .local∨sc.names.lookup x=some .cell
 nofree:∀ y∈sc.names,y.2≠.free
theorem tN {kindOf:Str->Option NameKind}{x:Str}:∀ {binds:List (Str×Value)} {m:Str->Option Value},(∀ v,(x,v)∉binds)->bindL kindOf binds m x=m x
 | [],_,_=>rfl
 | (n,v)::r,m,h=>by
  unfold bindL;rw[tN fun w hw=>h w (ai _ hw)];split
  ·have:x≠n:=by rintro rfl;exact h v am
   simp[this]
  ·rfl
theorem sZ {kindOf:Str->Option NameKind}{x:Str}:∀ {binds:List (Str×Value)} {m:Str->Option Value},(∀ v,(x,v)∉binds)->bindC kindOf binds m x=m x
 | [],_,_=>rfl
 | (n,v)::r,m,h=>by
  unfold bindC;rw[sZ fun w hw=>h w (ai _ hw)];split
  ·rfl
  ·have:x≠n:=by rintro rfl;exact h v am
   simp[this]
theorem tM {kindOf:Str->Option NameKind}{x:Str}{v:Value}:∀ {P:List Str} {vs:List Value} {i:Nat} {m:Str->Option Value},P.Nodup->P[i]?=some x->vs[i]?=some v->kindOf x=some .local ->
  bindL kindOf (P.zip vs) m x=some v
 | [],_,_,_,_,h,_,_=>by simp at h
 | _::_,[],_,_,_,_,h,_=>by simp at h
 | p::P,w::vs,0,m,nd,h1,h2,hk=>by
  simp at h1 h2;subst h1;subst h2;show bindL kindOf ((p,w)::P.zip vs) m p=_;unfold bindL;rw[tN fun v hv=>(b9.mp nd).1 (oe hv).1,if_pos hk];simp
 | p::P,w::vs,i+1,m,nd,h1,h2,hk=>by
  show bindL kindOf ((p,w)::P.zip vs) m x=_;unfold bindL;exact tM (i:=i) (b9.mp nd).2 (by simpa using h1) (by simpa using h2) hk
theorem sW {kindOf:Str->Option NameKind}{x:Str}{v:Value}:∀ {P:List Str} {vs:List Value} {i:Nat} {m:Str->Option Value},P.Nodup->P[i]?=some x->vs[i]?=some v->kindOf x≠some .local ->
  bindC kindOf (P.zip vs) m x=some v
 | [],_,_,_,_,h,_,_=>by simp at h
 | _::_,[],_,_,_,_,h,_=>by simp at h
 | p::P,w::vs,0,m,nd,h1,h2,hk=>by
  simp at h1 h2;subst h1;subst h2;show bindC kindOf ((p,w)::P.zip vs) m p=_;unfold bindC;rw[sZ fun v hv=>(b9.mp nd).1 (oe hv).1,if_neg hk];simp
 | p::P,w::vs,i+1,m,nd,h1,h2,hk=>by
  show bindC kindOf ((p,w)::P.zip vs) m x=_;unfold bindC;exact sW (i:=i) (b9.mp nd).2 (by simpa using h1) (by simpa using h2) hk
def mQ (N:List Str)(vs:List V):St:=vs.map some++lx (N.length-vs.length) none
def oT (CX:CXT)(P:Program)(w:World)(K:ac)(mg:Str->Option Value)(base:Heap)(N:List Str)(qual:Str)(scope:Scope)(f:Addr)(cd:Value)(A:Around)(outer:List Env)(s:Shared)(H:Hp)(E:XK):Cx where
 prog:=P
 w:=w
 K:=K
 mg:=mg
 base:=base
 A:=A.deeper (envOfC qual scope s.heap.objs.size f cd)
 N:=N
 s₀:=s
 H₀:=H
 env:=envOfC qual scope s.heap.objs.size f cd
 outer:=outer
 stack:=envOfC qual scope s.heap.objs.size f cd::outer
 ex:=[]
 calm:=true
 fn:=fun _=>true
 pn:=[]
 xe:=fun e s'=>wpAny (model P w) (A.deeper (envOfC qual scope s.heap.objs.size f cd)) (leaving (envOfC qual scope s.heap.objs.size f cd) e) (fun _ s''=>CX outer H s E e s'') (fun e' s''=>CX outer H s E e' s'') s'
theorem xR {sc:Scope}{n:Nat}{x:Str}(h:sc.names.lookup x=some .cell):∃ c,(cellsFrom n sc.names []).lookup x=some c:=by
 have q:=nq sc.names n [] (.inl h);exact Option.isSome_iff_exists.mp q
theorem Ci {CX:CXT}{P:Program}{w:World}{K:ac}{mg:Str->Option Value}{base:Heap}{N ps:List Str}{qual:Str}{scope:Scope}{f:Addr}{cd:Value}{A:Around}{outer:List Env}{s s1:Shared}{H:Hp}{E:XK}{us:List Value}{vs:List V}
  (S:aW N ps scope) (hd:A.handled=none) (e0:zI P w K mg base A outer s H) (hl:vs.length=ps.length) (r:bN vs us)
  (x:InCallC s s.heap.objs.size (bindL (envOfC qual scope s.heap.objs.size f cd).kindOf (ps.zip us) fun _=>none) (cellsFrom (s.heap.objs.size+1) scope.names []) (bindC (envOfC qual scope s.heap.objs.size f cd).kindOf (ps.zip us) fun _=>none) s1) :
  Inv (oT CX P w K mg base N qual scope f cd A outer s H E) [] (mQ N vs) H s1:=by
 have hpl:ps.length<=N.length:=by have:=congrArg ge S.pre;rw[a8] at this;omega
 obtain⟨h1,tk,rfl,hk⟩:=x.done;have noA:∀ b:Addr,b∉(oT CX P w K mg base N qual scope f cd A outer s H E).ex:=fun b z=>absurd (show b∈([]:List Addr) from z) (by simp)
 refine⟨⟨e0.mod,S.kind,rfl,rfl,af _,fun y z c h1 h2=>?_,fun y hy=>?_,fun y c _ h=>?_,fun _=>hd,Around.frames_deeper e0.frames,.inr ⟨rfl,rfl⟩,fun b z=>absurd z (noA b),e0.bs,e0.bsz,fun b _ _=>noA b,fun b z=>absurd z (noA b),e0.funs,e0.frf⟩,
  rfl,e0.bare,Un.kept hk,⟨_,x.toInCall.ns,fun i y v h1 h2 h3=>?_⟩,fun y c h=>⟨_,x.cell y c h⟩,e0.hok.fresh (af _),fun y c h=>?_,fun p hp=>absurd (show p∈([]:List (Addr×Obj)) from hp) (by simp),e0.hok.kept hk,?_⟩
 ·exact name_of_addr x.apart (gm h1) (gm h2)
 ·have hy:scope.names.lookup y=some .cell∨scope.names.lookup y=some .free:=hy
  rcases hy with hy | hy
  ·exact xR hy
  ·exact absurd rfl (S.nofree _ (gm hy))
 ·exact dv (x.above y c (gm h))
 ·have hi:i<vs.length:=by
   unfold mQ at h2;by_cases hi:i<vs.length
   ·exact hi
   ·rw[fg (by simpa using hi)] at h2
    rw[List.getElem?_replicate] at h2;split at h2 <;> cases h2
  have ha:vs[i]?=some v:=by
   unfold mQ at h2;rw[gy (by simpa using hi),aj] at h2
   cases e:vs[i]? with
   | none=>rw[e] at h2;cases h2
   | some a=>rw[e] at h2;cases h2;rfl
  obtain⟨u,hu,rv⟩:=r.get ha;have hp:ps[i]?=some y:=by
   rw[<- S.pre,List.getElem?_take_of_lt (by omega)];exact h1
  have ndP:ps.Nodup:=by rw[<- S.pre];exact S.nd.sublist (fh _ _)
  refine⟨u,rv,?_⟩;rcases S.par y (az hp) with k | k
  ·exact .inl ⟨k,tM ndP hp hu k⟩
  ·obtain⟨c,e⟩:=xR (n:=s.heap.objs.size+1) k
   refine .inr ⟨.inl k,c,e,?_⟩;have q:=x.cell y c e;rw[sW ndP hp hu (by show scope.names.lookup y≠_;rw[k];decide)] at q;exact q
 ·exact e0.hok.fresh (dv (x.above y c (gm h)))
 ·unfold mQ
  show _=N.length;rw[ag,aR,List.length_replicate];omega
theorem Mw {CX:CXT}{P:Program}{w:World}{K:ac}{mg:Str->Option Value}{base:Heap}{k:Nat}{f:Addr}{name qual:Str}{params:Arguments}{body:List Stmt}{scope:Scope}{dV kV doc pm cdv ct oc:Value}{an od:Option Addr}
  {osl:Array (Option Value)} {N ps:List Str} {sp:Sp} (lk:K.lookup f=some ⟨oc,od,.func (fz name qual params body scope dV kV doc pm an cdv ct),osl⟩) (hcd:ii K cdv qual=true) (S:aW N ps scope)
  (len:∀ vs H Q E,sp vs H Q E->vs.length=ps.length)
  (hbody:∀ (A:Around) (outer:List Env) (s:Shared) (H:Hp) (vs:List V) (Q:VK) (E:XK),fI k (A.deeper (envOfC qual scope s.heap.objs.size f cdv))->sp vs H Q E ->
   ∃ t,PSs (oT CX P w K mg base N qual scope f cdv A outer s H E) body t∧t { nx:=fun _ H'=>Q .non H',rt:=Q } (mQ N vs) H) :
  cN P w K mg base CX (k+1) f (fz name qual params body scope dV kV doc pm an cdv ct) ps sp:=by
 refine⟨len,fun A outer s H args us vs Q E hr e0 hb r hsp=>?_⟩;have hl:=len _ _ _ _ hsp;have KX:K.In s.heap:=e0.mod.kin.keeps fun b o e=>(e0.bs b o e).1
 have lim:s.heap.NoLimit:=e0.mod.nolimit.keeps fun b o e=>(e0.bs b o e).1
 have hkind:∀ y∈ps.zip us,scope.names.lookup y.1=some .local∨(scope.names.lookup y.1=some .cell∧((cellsFrom (s.heap.objs.size+1) scope.names []).lookup y.1).isSome=true):=fun ⟨n,v⟩ hy=>by
  rcases S.par n (oe hy).1 with q | q
  ·exact .inl q
  ·exact .inr ⟨q,nq _ _ _ (.inl q)⟩
 refine codeAny_call_function hr.depth (KX _ _ lk) rfl S.co S.gen rfl (PySem.W.codeRec_of KX hcd) (hb _ _ _ _ ?_);refine wpAny_newFunctionEnv_cells S.kind hkind fun env he s1 x=>?_
 subst he;refine⟨lim.keeps x.toInCall.keep,codeAny_func ?_⟩;obtain⟨t,ht,hq⟩:=hbody A outer s H vs Q E (hr.deeper _) hsp;have I:Inv (oT CX P w K mg base N qual scope f cdv A outer s H E) [] (mQ N vs) H s1:=Ci S hr.hd e0 hl r x;refine wpAny_mono (ht [] s1 (mQ N vs) H _ I hq) (fun fl s' hs=>?_) fun e s' hs=>hs
 have fin:∀ {σ':St} {H':Hp} {v:V} {u:Value},Inv (oT CX P w K mg base N qual scope f cdv A outer s H E) [] σ' H' s'->bF v u->Q v H'->CE outer P w H s Q u s' :=
  fun {σ' H' v u} J rv q=>⟨v,H',J.os,J.bare,J.base,J.hok,rv,q⟩
 cases fl with
 | ret u =>
  obtain⟨v,σ',H',J,rv,q⟩:=hs;exact fin J rv q
 | next =>
  obtain⟨σ',H',J,q⟩:=hs;exact fin (v:=V.non) (u:=Value.none) J rfl q
 | brk =>
  obtain⟨_,_,_,q⟩:=hs;exact False.elim q
 | cont =>
  obtain⟨_,_,_,q⟩:=hs;exact False.elim q
section
variable {X:Cx}{x:Str}{p pos:Pos}{e:Expr}{es:List Expr}{t:TA}{id T:String}{r:List V->Hp->VK->Prop}
def tCB (r:List V->Hp->VK->Prop)(t:TA):TE:=fun σ H Q=>t σ H fun vs H1=>r vs H1 Q
theorem aN (hc:dX X (.builtin id) r)(hg:Gl X x)(hm:X.mg x=none)(hv:bootBuiltins x=some (.builtin id))(ha:PA X (e::es) t)(hn:x ≠ "__name__" := by decide)(hdb:(x==("__debug__" : Str))=false:=by decide)
  (he:starEach (e::es) X.env=(false,eval e X.env)::starEach es X.env:=by rfl) (hpl:(backTo pos (starEach es X.env)).any (·.1)=false:=by rfl):PE X (.Call (.Name x p) (e::es) [] pos) (tCB r t):=by
 intro pins s σ H Q I h;refine wpAny_Call_Name_kw (jM I hg hm hv ?_ hn hdb);exact PyProof.Rows.callWith_builtin1 (thn (ha pos pins s σ H _ I h) fun us s1 ⟨vs,H1,I1,r1,q1⟩=>hc pins s1 σ H1 vs us Q I1 r1 q1) he hpl
theorem dH (hc:dX X (.type T) r)(hg:Gl X x)(hm:X.mg x=none)(hv:bootBuiltins x=some (.type T))(ha:PA X (e::es) t)(hn:x ≠ "__name__" := by decide)(hdb:(x==("__debug__" : Str))=false:=by decide)
  (he:starEach (e::es) X.env=(false,eval e X.env)::starEach es X.env:=by rfl) (hpl:(backTo pos (starEach es X.env)).any (·.1)=false:=by rfl):PE X (.Call (.Name x p) (e::es) [] pos) (tCB r t):=by
 intro pins s σ H Q I h;refine wpAny_Call_Name_kw (jM I hg hm hv ?_ hn hdb);exact d0 (thn (ha pos pins s σ H _ I h) fun us s1 ⟨vs,H1,I1,r1,q1⟩=>hc pins s1 σ H1 vs us Q I1 r1 q1) he hpl
end
end L2
namespace HT
open PySem PyProof.Rows
section
open PySem.SeqAt
open PySem.AutoSeq1 (wpAny_loadPart')
open PySem.MeetsSeq PySem.MeetsSeq2 PySem.MeetsSeq3
end
section
variable {prog:Program}{w:World}{A:Around}{E:Value->Shared->Prop}{s:Shared}
def sIx (n d:Nat):Option Int->Nat
 | none=>d
 | some v=>if v<0 then (v+(n:Int)).toNat else min v.toNat n
theorem eS (n d:Nat):sIx n d none=d:=rfl
theorem eY (n d k:Nat):sIx n d (some (k:Int))=min k n:=by
 show (if (k:Int)<0 then ((k:Int)+(n:Int)).toNat else min (k:Int).toNat n)=min k n;rw[if_neg (by omega),bt]
theorem vX (n d:Nat)(hd:d<=n)(o:Option Int):sIx n d o<=n:=by
 cases o with
 | none=>exact hd
 | some v =>
  show (if v<0 then (v+(n:Int)).toNat else min v.toNat n)<=n;by_cases hv:v<0
  ·rw[if_pos hv];omega
  ·rw[if_neg hv];exact ki _ _
end
end HT
namespace L2
open PySem PySem.Spec PyProof.Rows
abbrev TO:=St->Hp->(Option Int->Hp->Prop)->Prop
def PO (X:Cx)(e:Option Expr)(t:TO):Prop :=
 ∀ (pins:List (Addr×Obj)) (s:Shared) (σ:St) (H:Hp) (Q:Option Int->Hp->Prop),Inv X pins σ H s->t σ H Q ->
  wpAny (model X.prog X.w) X.A (evalPart e X.env) (fun u s'=>∃ o H',Inv X pins σ H' s'∧IsPart u o∧Q o H') X.xe s
def Kc:TO:=fun _ H Q=>Q none H
def Rc (t:TE):TO:=fun σ H Q=>t σ H fun x H1=>∃ i,x = .int i∧Q (some i) H1
theorem zA {ns:List Int}:∀ {us:List Value},bN (ns.map V.int) us->IntsAre us ns:=by
 induction ns with
 | nil=>intro us r;rw[je] at r;cases r;exact .nil
 | cons n ns ih =>
  intro us r;rw[a0] at r
  cases r with
  | cons r1 r2 =>
   obtain⟨t,e⟩:=r1;subst e;exact .cons n t (ih r2)
section
variable {X:Cx}{e:Expr}{te:TE}{lo hi:Option Expr}{tl th:TO}{pos p2:Pos}
theorem bD:PO X none Kc:=by
 intro pins s σ H Q I h;rw[evalPart_none];exact wpAny_pure ⟨none,H,I,.none,h⟩
theorem aX (h:PE X e te):PO X (some e) (Rc te):=by
 intro pins s σ H Q I hw;rw[evalPart_some];refine thn (h pins s σ H _ I hw) fun u s1 ⟨x,H1,I1,r1,q1⟩=>?_
 obtain⟨i,rfl,q⟩:=q1;obtain⟨t,rfl⟩:=r1;exact⟨some i,H1,I1,.int i t,q⟩
def SlR (X:Cx)(r:V->Option Int->Option Int->Hp->VK->Prop):Prop :=
 ∀ (pins:List (Addr×Obj)) (s:Shared) (σ:St) (H:Hp) (x:V) (v vl vu:Value) (lo hi:Option Int) (sl:Addr) (Q:VK),Inv X pins σ H s->bF x v->s.heap.IsSliceOf sl vl vu .none->IsPart vl lo->IsPart vu hi->r x lo hi H Q ->
  ∃ T id,typeLookup (.type T) "__getitem__" = pure (some (.builtin id))∧s.TypeIs v T∧wpAny (model X.prog X.w) X.A (getItem v (.ref sl)) (EP X pins σ Q) X.xe s
def tSl (r:V->Option Int->Option Int->Hp->VK->Prop)(te:TE)(tl th:TO):TE:=fun σ H Q=>te σ H fun x H1=>tl σ H1 fun l H2=>th σ H2 fun u H3=>r x l u H3 Q
theorem aS {r:V->Option Int->Option Int->Hp->VK->Prop}(hr:SlR X r)(he:PE X e te)(hl:PO X lo tl)(hu:PO X hi th):PE X (.Subscript e (.Slice lo hi none p2) pos) (tSl r te tl th):=by
 intro pins s σ H Q I h;refine Subscript_ (thn (he pins s σ H _ I h) fun v s1 ⟨x,H1,I1,r1,q1⟩=>?_);refine wpAny_Slice (thn (hl pins s1 σ H1 _ I1 q1) fun vl s2 ⟨l,H2,I2,pl,q2⟩=>thn (hu pins s2 σ H2 _ I2 q2) fun vu s3 ⟨u,H3,I3,pu,q3⟩=>?_);rw[evalPart_none];refine wpAny_pure ?_;have I4:Inv X pins σ H3 { s3 with heap:=s3.heap.push { cls:=.type "slice",data:=.fields #[vl,vu,.none] } }:=I3.kept (t':=s3.toks) fun b ob q=>Heap.get?_push_of_some _ q
 obtain⟨T,id,hT,ht,hg⟩:=hr pins { s3 with heap:=s3.heap.push { cls:=.type "slice",data:=.fields #[vl,vu,.none] } } σ H3 x v vl vu l u s3.heap.objs.size Q I4 r1 (Heap.IsSliceOf.new ..) pl pu q3
 show wpAny (model X.prog X.w) X.A (subscriptTail e (.Slice lo hi none p2) v (.ref s3.heap.objs.size)) (EP X pins σ Q) X.xe { s3 with heap:=s3.heap.push { cls:=.type "slice",data:=.fields #[vl,vu,.none] } }
 exact tail_any (ops:=[.ref s3.heap.objs.size,v]) ht hT hg (by with_unfolding_all rfl)
def cP (xs:List V)(lo hi:Option Int):List V:=(xs.drop (HT.sIx xs.length 0 lo)).take (HT.sIx xs.length xs.length hi-HT.sIx xs.length 0 lo)
theorem xE (xs:List V)(lo hi:Option Int):(cP xs lo hi).length<=xs.length:=by
 unfold cP;rw[a8,bn];omega
end
def ixN (n:Nat)(i:Int):Option Nat:=if 0<=i then (if i<n then some i.toNat else none) else if -(n:Int)<=i then some (i+n).toNat else none
def atI {α:Type}(xs:List α)(i:Int):Option α:=(ixN xs.length i).bind fun j=>xs[j]?
theorem Kt {n:Nat}{i:Int}{j:Nat}(h:ixN n i=some j):seqIndex? i n=some j∧j<n∧-(n:Int)<=i∧i<n:=by
 unfold ixN at h;by_cases h0:0<=i
 ·rw[if_pos h0] at h
  by_cases h1:i<n
  ·rw[if_pos h1] at h
   have e:i.toNat=j:=a5 h;exact⟨by rw[seqIndex_of h0 h1,e],by omega,by omega,h1⟩
  ·rw[if_neg h1] at h;cases h
 ·rw[if_neg h0] at h
  by_cases h1 : -(n:Int)<=i
  ·rw[if_pos h1] at h
   have e:(i+n).toNat=j:=a5 h;exact⟨by rw[seqIndex_neg (by omega) h1,e],by omega,h1,by omega⟩
  ·rw[if_neg h1] at h;cases h
theorem uP {α:Type}{xs:List α}{i:Int}{v:α}(h:atI xs i=some v):∃ j,seqIndex? i xs.length=some j∧xs[j]?=some v∧j<xs.length∧-(xs.length:Int)<=i∧i<xs.length:=by
 unfold atI at h
 cases e:ixN xs.length i with
 | none=>rw[e] at h;cases h
 | some j =>
  rw[e] at h;obtain⟨h1,h2,h3,h4⟩:=Kt e;exact⟨j,h1,h,h2,h3,h4⟩
theorem cQ {α:Type}{xs:List α}{j:Nat}{v:α}(h:xs[j]?=some v):atI xs (j:Int)=some v:=by
 have hj:j<xs.length:=(al.mp h).1;have e:ixN xs.length (j:Int)=some j:=by
  unfold ixN;rw[if_pos (by omega),if_pos (by omega)];simp
 unfold atI;rw[e];exact h
def Ks (b:Expr):Prop:=∀ o i,subscripted b false o i=operate [o,i] (getItem o i)
def IxR (X:Cx)(r:R2):Prop :=
 ∀ (value slice:Expr) (pins:List (Addr×Obj)) (s:Shared) (σ:St) (H:Hp) (x y:V) (v u:Value) (Q:VK),Inv X pins σ H s->bF x v->bF y u->r x y H Q ->
  subscripted slice false v u=operate [v,u] (getItem v u)->wpAny (model X.prog X.w) X.A (subscriptTail value slice v u) (EP X pins σ Q) X.xe s
def MtR (X:Cx)(id:String)(r:V->List V->Hp->VK->Prop):Prop :=
 ∀ (pins:List (Addr×Obj)) (s:Shared) (σ:St) (H:Hp) (x:V) (xs:List V) (v:Value) (us:List Value) (Q:VK),Inv X pins σ H s->bF x v->bN xs us->r x xs H Q ->
  wpAny (model X.prog X.w) X.A (call (.builtin id) (v::us)) (EP X pins σ Q) X.xe s
section
variable {X:Cx}{a b:Expr}{ta tb:TE}{pos:Pos}
theorem dC {r:R2}(hr:IxR X r)(ha:PE X a ta)(hb:PE X b tb)(hs:Ks b):PE X (.Subscript a b pos) (tOp r ta tb):=by
 intro pins s σ H Q I h;exact Subscript_ (Oe ha hb I h fun v u s2 x y H2 I2 rx ry q=>hr a b pins s2 σ H2 x y v u Q I2 rx ry q (hs _ _))
def Qk (K:ac):R2:=fun x y H Q=>∃ p xs i v,x = .ref p∧y = .int i∧SqL K H p xs∧atI xs i=some v∧Q v H
def Sw (K:ac):R2:=fun x y H Q=>∃ p xs i v,x = .ref p∧y = .int i∧SqT K H p xs∧atI xs i=some v∧Q v H
def Ti:R2:=fun x y H Q=>∃ z i c,x = .str z∧y = .int i∧z.length<=sizeLine∧atI z.cps.toList i=some c∧Q (.str ⟨#[c]⟩) H
theorem bX:IxR X (Qk X.K):=by
 intro value slice pins s σ H x y v u Q I rx ry h hs;obtain⟨p,xs,i,z,rfl,rfl,hq,he,q⟩:=h;cases rx;obtain⟨t,rfl⟩:=ry;obtain⟨its,r,pl,hz⟩:=I.list hq;obtain⟨j,h1,h2,h3,h4,h5⟩:=uP he;obtain⟨w,ew,rw'⟩:=r.get h2;have hl:=r.length;have hn:=pX;have fin:EP X pins σ Q w s:=⟨z,H,I,rw',q⟩;by_cases h0:0<=i
 ·have hj:i.toNat=j:=by
   rw[seqIndex_of h0 h5] at h1;exact a5 h1
  exact item_listR pl.isList h0 (by omega) (by rw[hj];simpa using ew) fin hs
 ·have hj:(i+(its.toArray.size:Int)).toNat=j:=by
   rw[seqIndex_neg (by omega) h4] at h1;rw[ao,<- hl];exact a5 h1
  exact subscriptTail_builtinR (x:=w) pl.isList.typeIs slot_list_getitem.lookup
   (wpAny_getItem_list_neg (Q:=fun r s'=>r=w∧EP X pins σ Q r s') pl.isList (by omega) (by rw[ao] <;> omega) (by omega) (by rw[hj];simpa using ew) ⟨rfl,fin⟩) hs
theorem Ot:IxR X (Sw X.K):=by
 intro value slice pins s σ H x y v u Q I rx ry h hs;obtain⟨p,xs,i,z,rfl,rfl,hq,he,q⟩:=h;cases rx;obtain⟨t,rfl⟩:=ry;obtain⟨its,r,pl,hz⟩:=I.tuple hq;obtain⟨j,h1,h2,h3,h4,h5⟩:=uP he;obtain⟨w,ew,rw'⟩:=r.get h2;have hl:=r.length;have hn:=pX;have fin:EP X pins σ Q w s:=⟨z,H,I,rw',q⟩;exact subscriptTail_builtinR (x:=w) pl.typeIs slot_tuple_getitem.lookup
  (getItem_tuple (j:=j) (Q:=fun r s'=>r=w∧EP X pins σ Q r s') pl (by omega) (by omega) (by rw[ao,<- hl];exact h1) (by simpa using ew) ⟨rfl,fin⟩) hs
theorem Pu:IxR X Ti:=by
 intro value slice pins s σ H x y v u Q I rx ry h hs;obtain⟨z,i,c,rfl,rfl,hz,he,q⟩:=h;obtain⟨t,rfl⟩:=rx;obtain⟨t',rfl⟩:=ry;obtain⟨j,h1,h2,h3,h4,h5⟩:=uP he;have hl:z.cps.toList.length=z.length:=by simp[Str.length]
 rw[hl] at h1 h4 h5;have hn:=pX;exact tail_any (typeIs_str s z t) slot_str_getitem.lookup (getItem_str (c:=c) (by
  have e1:decide (i < -(2 ^ 63:Int))=false:=decide_eq_false (by omega);have e2:decide (i≥2 ^ 63)=false:=decide_eq_false (by omega);rw[e1,e2,gs]) (by rw[h1];simpa using h2) ⟨.str ⟨#[c]⟩,H,I.tok _,⟨_,rfl⟩,q⟩) hs
theorem vI (lo hi:Option Int)(n:Nat):(sliceBounds lo hi none n).1=((HT.sIx n 0 lo:Nat):Int)∧(sliceBounds lo hi none n).2.1=((HT.sIx n n hi:Nat):Int)∧(sliceBounds lo hi none n).2.2=1:=by
 refine⟨?_,?_,rfl⟩
 ·cases lo with
  | none=>simp[sliceBounds,HT.sIx]
  | some i =>
   simp only [sliceBounds,HT.sIx,qu,show (1:Int)>0 by decide,if_true];by_cases h:i<0
   ·simp only [h,if_true] <;> omega
   ·simp only [h,if_false] <;> omega
 ·cases hi with
  | none=>simp[sliceBounds,HT.sIx]
  | some i =>
   simp only [sliceBounds,HT.sIx,qu,show (1:Int)>0 by decide,if_true];by_cases h:i<0
   ·simp only [h,if_true] <;> omega
   ·simp only [h,if_false] <;> omega
theorem rM (its:List Value)(lo hi:Option Int):slicePick its.toArray lo hi none=((its.drop (HT.sIx its.length 0 lo)).take (HT.sIx its.length its.length hi-HT.sIx its.length 0 lo)).toArray:=by
 obtain⟨h1,h2,h3⟩:=vI lo hi its.toArray.size;unfold slicePick;rw[h1,h2,h3];simp only [sliceRange_one,pick_run,ao] <;> rfl
def Tk (K:ac):V->Option Int->Option Int->Hp->VK->Prop:=fun x lo hi H Q=>∃ a xs,x = .ref a∧SqL K H a xs∧∀ p,H p=none->Q (.ref p) (upd H p (.lst (cP xs lo hi)))
theorem cC:SlR X (Tk X.K):=by
 intro pins s σ H x v vl vu lo hi sl Q I rx hs pl pu h;obtain⟨a,xs,rfl,hx,q⟩:=h;cases rx;obtain⟨its,r,ht,hz⟩:=I.list hx;have hlen:=r.length;refine⟨"list",_,slot_list_getitem.lookup,ht.isList.typeIs,?_⟩
 refine wpAny_getItem_list_slice ht.isList hs pl pu .none (by simp) ?_ (by rw[ao] <;> omega);rw[rM,<- hlen];refine⟨.ref s.heap.objs.size,_,I.laid (t':=s.toks) (o:=.lst (cP xs lo hi)) (fun b ob q=>Heap.get?_push_of_some _ q) (af _) ?_,rfl,q _ (I.hok.fresh (af _))⟩;exact⟨a7 (xE xs lo hi) hz,_,0,(r.drop (HT.sIx xs.length 0 lo)).take (HT.sIx xs.length xs.length hi-HT.sIx xs.length 0 lo),Heap.get?_push_size _ rfl⟩
def gP:V->Bool
 | .non=>true
 | .bl _=>true
 | .int _=>true
 | .str _=>true
 | _=>false
def eqV:V->V->Bool
 | .non,.non=>true
 | .bl a,.bl b=>a==b
 | .bl a,.int b=>(if a then 1 else 0)==b
 | .int a,.bl b=>a==(if b then 1 else 0)
 | .int a,.int b=>a==b
 | .str a,.str b=>a==b
 | _,_=>false
theorem zR {A:Around}{s:Shared}{y x:V}{u v:Value}(ry:bF y u)(rx:bF x v)(fy:gP y=true)(fx:gP x=true):SeqAt.EqAt A s u v (eqV y x):=by
 cases y with
 | non =>
  cases ry
  cases x with
  | non=>cases rx;exact SeqAt.EqAt.same _
  | bl b=>cases rx;exact SeqAt.EqAt.none_bool b
  | int b=>obtain⟨t,rfl⟩:=rx;exact SeqAt.EqAt.none_int b t
  | str b=>obtain⟨t,rfl⟩:=rx;exact SeqAt.EqAt.none_str b t
  | _=>exact absurd (show false=true from fx) ak
 | bl a =>
  cases ry
  cases x with
  | non=>cases rx;exact SeqAt.EqAt.bool_none a
  | bl b=>cases rx;exact SeqAt.EqAt.bool_bool a b
  | int b=>obtain⟨t,rfl⟩:=rx;exact SeqAt.EqAt.bool_int a b t
  | str b=>obtain⟨t,rfl⟩:=rx;exact SeqAt.EqAt.bool_str a b t
  | _=>exact absurd (show false=true from fx) ak
 | int a =>
  obtain⟨t',rfl⟩:=ry
  cases x with
  | non=>cases rx;exact SeqAt.EqAt.int_none a t'
  | bl b=>cases rx;exact SeqAt.EqAt.int_bool a t' b
  | int b=>obtain⟨t,rfl⟩:=rx;exact SeqAt.EqAt.int_int a t' b t
  | str b=>obtain⟨t,rfl⟩:=rx;exact SeqAt.EqAt.int_str a t' b t
  | _=>exact absurd (show false=true from fx) ak
 | str a =>
  obtain⟨t',rfl⟩:=ry
  cases x with
  | non=>cases rx;exact SeqAt.EqAt.str_none a t'
  | bl b=>cases rx;exact SeqAt.EqAt.str_bool a t' b
  | int b=>obtain⟨t,rfl⟩:=rx;exact SeqAt.EqAt.str_int a t' b t
  | str b=>obtain⟨t,rfl⟩:=rx;exact SeqAt.EqAt.str_str a t' b t
  | _=>exact absurd (show false=true from fx) ak
 | _=>exact absurd (show false=true from fy) ak
def eqU (x:V)(u:Value):Bool:=match u with
 | .none=>eqV .non x
 | .bool b=>eqV (.bl b) x
 | .int i _=>eqV (.int i) x
 | .str z _=>eqV (.str z) x
 | _=>false
theorem zE {x y:V}{u:Value}(r:bF y u)(f:gP y=true):eqU x u=eqV y x:=by
 cases y with
 | non=>cases r;rfl
 | bl b=>cases r;rfl
 | int i=>obtain⟨t,rfl⟩:=r;rfl
 | str z=>obtain⟨t,rfl⟩:=r;rfl
 | _=>exact absurd (show false=true from f) ak
theorem mU {x:V}:∀ {xs:List V} {us:List Value},bN xs us->xs.all gP=true->us.any (eqU x)=xs.any fun y=>eqV y x
 | _,_,.nil,_=>rfl
 | y::xs,u::us,.cons r t,f=>by
  rw[pi,dg] at f;rw[kx,kx,zE r f.1,mU t f.2]
theorem iE {A:Around}{s:Shared}{x:V}{v:Value}(rx:bF x v)(fx:gP x=true):∀ {xs:List V} {us:List Value},bN xs us->xs.all gP=true->∀ u∈us,SeqAt.EqAt A s u v (eqU x u)
 | _,_,.nil,_=>fun u hu=>by cases hu
 | y::xs,u::us,.cons r t,f=>fun u' hu=>by
  rw[pi,dg] at f;rcases au.mp hu with rfl | hu
  ·rw[zE r f.1];exact zR r rx f.1 fx
  ·exact iE rx fx t f.2 u' hu
def inV (x:V)(xs:List V):Bool:=xs.any fun y=>eqV y x
def rIn (K:ac)(neg:Bool):R2:=fun x y H Q=>∃ p xs,y = .ref p∧(SqL K H p xs∨SqT K H p xs)∧gP x=true∧xs.all gP=true∧Q (.bl (if neg then !inV x xs else inV x xs)) H
theorem Em:OpR X (compareOp .In) (rIn X.K false):=by
 intro pins s σ H x y v u Q I rx ry h;obtain⟨p,xs,rfl,hq,fx,fs,q⟩:=h;cases ry;rcases hq with hq | hq
 ·obtain⟨its,r,pl,hz⟩:=I.list hq
  refine SeqAt.in_listAt (eqU x) pl.isList (fun w hw=>iE rx fx r fs w (by simpa using hw)) ⟨.bl _,H,I,rfl,?_⟩;rw[show its.toArray.any (eqU x)=its.any (eqU x) by simp,mU r fs];exact q
 ·obtain⟨its,r,pl,hz⟩:=I.tuple hq
  refine SeqAt.in_tupleAt (eqU x) pl (fun w hw=>iE rx fx r fs w (by simpa using hw)) ⟨.bl _,H,I,rfl,?_⟩;rw[show its.toArray.any (eqU x)=its.any (eqU x) by simp,mU r fs];exact q
theorem iX:OpR X (compareOp .NotIn) (rIn X.K true):=by
 intro pins s σ H x y v u Q I rx ry h;obtain⟨p,xs,rfl,hq,fx,fs,q⟩:=h;cases ry;rcases hq with hq | hq
 ·obtain⟨its,r,pl,hz⟩:=I.list hq
  refine SeqAt.notIn_listAt (eqU x) pl.isList (fun w hw=>iE rx fx r fs w (by simpa using hw)) ⟨.bl _,H,I,rfl,?_⟩;rw[show its.toArray.any (eqU x)=its.any (eqU x) by simp,mU r fs];exact q
 ·obtain⟨its,r,pl,hz⟩:=I.tuple hq
  refine SeqAt.notIn_tupleAt (eqU x) pl (fun w hw=>iE rx fx r fs w (by simpa using hw)) ⟨.bl _,H,I,rfl,?_⟩;rw[show its.toArray.any (eqU x)=its.any (eqU x) by simp,mU r fs];exact q
theorem aP:dX X (.builtin "len") (fun xs H Q=>∃ p ys,xs=[.ref p]∧(SqL X.K H p ys∨SqT X.K H p ys)∧Q (.int ys.length) H):=by
 intro pins s σ H xs us Q I r h;obtain⟨p,ys,rfl,hq,q⟩:=h;obtain⟨u,rfl,rx⟩:=fE r;cases rx;have hn:=pX;rcases hq with hq | hq
 ·obtain⟨its,r',pl,hz⟩:=I.list hq
  have hlen:=r'.length;exact Calls.call_len_list pl.isList (by simp only [ao] <;> omega) ⟨.int ys.length,H,I.tok _,⟨s.toks+1,by rw[ao,hlen]⟩,q⟩
 ·obtain⟨its,r',pl,hz⟩:=I.tuple hq
  have hlen:=r'.length;exact len_tuple pl (by simp only [ao] <;> omega) ⟨.int ys.length,H,I.tok _,⟨s.toks+1,by rw[ao,hlen]⟩,q⟩
theorem vG:dX X (.builtin "len") (fun xs H Q=>∃ z,xs=[.str z]∧z.length<=sizeLine∧Q (.int z.length) H):=by
 intro pins s σ H xs us Q I r h;obtain⟨z,rfl,hz,q⟩:=h;obtain⟨u,rfl,t,rfl⟩:=fE r;have hn:=pX;exact len_str (by omega) ⟨.int z.length,H,I.tok _,⟨_,rfl⟩,q⟩
theorem uA:dX X (.type "list") (fun xs H Q=>∃ p ys,xs=[.ref p]∧(SqL X.K H p ys∨SqT X.K H p ys)∧∀ l,H l=none->Q (.ref l) (upd H l (.lst ys))):=by
 intro pins s σ H xs us Q I r h;obtain⟨p,ys,rfl,hq,q⟩:=h;obtain⟨u,rfl,rx⟩:=fE r;cases rx;have fin:∀ (its:List Value),bN ys its->ys.length<=sizeLine->∀ (h':Heap) (c':Nat),(∀ b o',s.heap.get? b=some o'->h'.get? b=some o') ->
   h'.get? s.heap.objs.size=some { cls:=.type "list",dict:=none,data:=.seq its.toArray c',slots:=#[] }->EP X pins σ Q (.ref s.heap.objs.size) { s with heap:=h' }:=fun its r' hz h' c' kp e =>
  ⟨.ref s.heap.objs.size,_,I.laid (t':=s.toks) kp (af _) (show cJ X.prog X.w _ h' _ (.lst ys) from ⟨hz,its,c',r',e⟩),rfl,q _ (I.hok.fresh (af _))⟩
 rcases hq with hq | hq
 ·obtain⟨its,r',pl,hz⟩:=I.list hq
  have hlen:=r'.length;obtain⟨o,ho,hc,n,hd⟩:=pl.isList;exact call_list_seq p (.inl rfl) ho hc hd (fun h' c' kp e=>fin its r' hz h' c' kp e) (by simp only [ao] <;> omega)
 ·obtain⟨its,r',pl,hz⟩:=I.tuple hq
  have hlen:=r'.length;obtain⟨o,ho,hc,n,hd⟩:=pl;exact call_list_seq p (.inr rfl) ho hc hd (fun h' c' kp e=>fin its r' hz h' c' kp e) (by simp only [ao] <;> omega)
theorem lG:dX X (.type "tuple") (fun xs H Q=>∃ p ys,xs=[.ref p]∧((SqL X.K H p ys∧∀ l,H l=none->Q (.ref l) (upd H l (.tup ys)))∨(SqT X.K H p ys∧Q (.ref p) H))):=by
 intro pins s σ H xs us Q I r h;obtain⟨p,ys,rfl,h⟩:=h;obtain⟨u,rfl,rx⟩:=fE r;cases rx;rcases h with ⟨hq,q⟩ | ⟨hq,q⟩
 ·obtain⟨its,r',pl,hz⟩:=I.list hq
  have hlen:=r'.length;refine call_tuple_list pl.isList (fun h' kp=>?_) (by simp only [ao] <;> omega);have I1:Inv X pins σ H { s with heap:=h' }:=I.kept (t':=s.toks) kp;have I2:Inv X pins σ (upd H h'.objs.size (.tup ys)) { s with heap:=h'.push { cls:=.type "tuple",data:=.seq its.toArray } } :=
   I1.laid (t':=s.toks) (fun b o e=>Heap.get?_push_of_some _ e) (af _) (show cJ X.prog X.w _ _ _ (.tup ys) from ⟨hz,its,r',IsTup.new _ _⟩)
  exact⟨.ref h'.objs.size,_,I2,rfl,q _ (I1.hok.fresh (af _))⟩
 ·obtain⟨its,r',pl,hz⟩:=I.tuple hq
  exact call_tuple_same pl ⟨.ref p,H,I,rfl,q⟩
def tyV (K:ac)(T:String)(x:V)(H:Hp):Prop:=match x with
 | .str _=>T = "str"
 | .int _=>T = "int"
 | .ref p=>(T = "list" ∧ ∃ xs,SqL K H p xs)∨(T = "tuple" ∧ ∃ o,K.lookup p=some o∧o.cls = .type "tuple" ∧ o.dict=none) ∨
  (T = "dict" ∧ ((∃ kvs,H p=some (.dK kvs))∨∃ kvs,H p=some (.dT kvs)))∨(T = "set" ∧ ∃ S n,H p=some (.set S n))
 | _=>False
theorem Gu {pins:List (Addr×Obj)}{σ:St}{H:Hp}{s:Shared}{T:String}{x:V}{v:Value}(I:Inv X pins σ H s)(r:bF x v)(ty:tyV X.K T x H) :
  s.TypeIs v T∧∀ a,v = .ref a->∃ ob,s.heap.get? a=some ob∧ob.dict=none:=by
 cases x with
 | str z =>
  obtain⟨t,rfl⟩:=r;cases (show T = "str" from ty)
  exact⟨typeIs_str s z t,fun _ e=>nomatch e⟩
 | int i =>
  obtain⟨t,rfl⟩:=r;cases (show T = "int" from ty)
  exact⟨typeIs_int s i t,fun _ e=>nomatch e⟩
 | ref p =>
  cases r;rcases ty with ⟨rfl,xs,hq⟩ | ⟨rfl,o,hk,hc,hd⟩ | ⟨rfl,hk⟩ | ⟨rfl,S,n,hk⟩
  ·obtain⟨its,_,pl,_⟩:=I.list hq
   refine⟨pl.isList.typeIs,fun a e=>?_⟩;cases e;obtain⟨o,n,e,c,hd,_⟩:=pl;exact⟨o,e,hd⟩
  ·refine⟨⟨o,I.kIn p o hk,hc⟩,fun a e=>?_⟩
   cases e;exact⟨o,I.kIn _ o hk,hd⟩
  ·have z:∃ o,s.heap.get? p=some o∧o.ExactDict:=by
    rcases hk with ⟨kvs,hk⟩ | ⟨kvs,hk⟩
    ·obtain⟨_,_,_,_,o,_,_,e,ex,_⟩:=I.hok p _ hk
     exact⟨o,e,ex⟩
    ·obtain⟨_,_,_,_,o,_,_,e,ex,_⟩:=I.hok p _ hk
     exact⟨o,e,ex⟩
   obtain⟨o,e,ex⟩:=z;refine⟨⟨o,e,ex.1⟩,fun a e2=>?_⟩;cases e2;exact⟨o,e,ex.2.1⟩
  ·obtain⟨o,_,_,_,e,ex,_⟩:=I.hok p _ hk
   refine⟨⟨o,e,ex.1⟩,fun a e2=>?_⟩;cases e2;exact⟨o,e,ex.2.1⟩
 | _=>exact False.elim ty
def Tv (K:ac)(T:String)(r:V->List V->Hp->VK->Prop)(to:TE):TE:=fun σ H Q=>to σ H fun x H1=>tyV K T x H1∧r x [] H1 Q
def tBM (K:ac)(T:String)(r:V->List V->Hp->VK->Prop)(to:TE)(t:TA):TE:=fun σ H Q=>to σ H fun x H1=>tyV K T x H1∧t σ H1 fun xs H2=>r x xs H2 Q
variable {o e:Expr}{es:List Expr}{to:TE}{t:TA}{name:Str}{apos cpos:Pos}{T id:String}{r:V->List V->Hp->VK->Prop}
theorem Nm (pa:PlainAttrs T)(slot:Slot T name id)(hty:typeOf (.builtin id)=pure (.type "method_descriptor"))(hm:MtR X id r)(ho:PE X o to)
  (hbase:attributeBase o name X.env (eval o X.env)=eval o X.env:=by rfl) (hline:(apos.endLine==cpos.line)=true:=by rfl):PE X (.Call (.Attribute o name apos) [] [] cpos) (Tv X.K T r to):=by
 intro pins s σ H Q I h;refine wpAny_Call_method0_late hbase hline (thn (ho pins s σ H _ I h) fun v s1 ⟨x,H1,I1,r1,ty,q1⟩=>?_);obtain⟨h1,h2⟩:=Gu I1 r1 ty;exact⟨T,id,pa,slot,hty,h1,h2,Calls.callWith_builtin rfl (PySem.evalArgs_none (hm pins s1 σ H1 x [] v [] Q I1 r1 .nil q1))⟩
theorem iC (pa:PlainAttrs T)(slot:Slot T name id)(hty:typeOf (.builtin id)=pure (.type "method_descriptor"))(hm:MtR X id r)(ho:PE X o to)(ha:PA X (e::es) t)
  (hbase:attributeBase o name X.env (eval o X.env)=eval o X.env:=by rfl)
  (hfew:((backTo cpos (starEach (e::es) X.env)).all (fun x=>!x.1)&&(backToKw cpos (keywordEach [] X.env)).all (fun x=>x.1.isSome)
   && decide ((e::es).length+([]:List Keyword).length+(if ([]:List Keyword).isEmpty then 0 else 1)<30))=true:=by rfl)
  (hline:(apos.endLine==cpos.line)=true:=by rfl) (hs:starEach (e::es) X.env=(false,eval e X.env)::starEach es X.env:=by rfl) (hplain:(backTo cpos (starEach es X.env)).any (·.1)=false:=by rfl) :
  PE X (.Call (.Attribute o name apos) (e::es) [] cpos) (tBM X.K T r to t):=by
 intro pins s σ H Q I h;refine wpAny_Call_method_late hbase hfew hline rfl (thn (ho pins s σ H _ I h) fun v s1 ⟨x,H1,I1,r1,ty,q1⟩=>?_);obtain⟨h1,h2⟩:=Gu I1 r1 ty;refine⟨T,id,pa,slot,hty,h1,h2,?_⟩;have hA:=ha cpos pins s1 σ H1 _ I1 q1;rw[hs] at hA ⊢;refine Calls.callWith_builtin (by show (false||(backTo cpos (starEach es X.env)).any (·.1))=false;rw[hplain] <;> rfl) (Calls.evalArgs_plain ?_);exact thn hA fun us s2 ⟨vs,H2,I2,r2,q2⟩=>hm pins s2 σ H2 x vs v us Q I2 r1 r2 q2
end
def MtM (X:Cx)(id:String)(r:V->List V->Hp->VK->Prop):Prop :=
 ∀ (pins:List (Addr×Obj)) (s:Shared) (σ:St) (H:Hp) (x:V) (xs:List V) (v:Value) (us:List Value) (Q:VK),Inv X pins σ H s->bF x v->bN xs us->r x xs H Q ->
  wpAny (model X.prog X.w) X.A (call (.builtin id) (v::us)) (EP X pins σ Q) X.xe s
theorem bN.one:∀ {x:V} {us:List Value},bN [x] us->∃ u,us=[u]∧bF x u
 | _,_,.cons r .nil=>⟨_,rfl,r⟩
theorem bN.zero:∀ {us:List Value},bN [] us->us=[]
 | _,.nil=>rfl
theorem bN.dropLast {xs:List V}{us:List Value}(h:bN xs us):bN xs.dropLast us.dropLast:=by
 induction h with
 | nil=>exact .nil
 | cons r t ih =>
  cases t with
  | nil=>exact .nil
  | cons q t'=>exact .cons r ih
theorem bN.reverse {xs:List V}{us:List Value}(h:bN xs us):bN xs.reverse us.reverse:=by
 induction h with
 | nil=>exact .nil
 | cons r t ih=>rw[qg,qg];exact bN.append ih (.cons r .nil)
theorem yL {α:Type}(l:List α):l.eraseIdx (l.length-1)=l.dropLast:=by
 induction l with
 | nil=>rfl
 | cons a r ih =>
  cases r with
  | nil=>rfl
  | cons b r =>
   have e:(a::b::r).length-1=((b::r).length-1)+1:=by
    have h1:(a::b::r).length=r.length+2:=rfl;have h2:(b::r).length=r.length+1:=rfl;omega
   rw[e,List.eraseIdx_cons_succ,ih]
   all_goals rfl
section
variable {X:Cx}{pins:List (Addr×Obj)}{σ:St}{H:Hp}{s:Shared}{l b:Addr}{xs ys zs:List V}
theorem Inv.lset {its its':List Value}{n:Nat}{f:Array Value->Array Value}{t':Nat}(I:Inv X pins σ H s)(hH:H l=some (.lst xs))
  (e:s.heap.get? l=some { cls:=.type "list",data:=.seq its.toArray n }) (hf:f its.toArray=its'.toArray) (hv:bN ys its') (hz:ys.length<=sizeLine) :
  Inv X pins σ (upd H l (.lst ys)) { s with heap:=s.heap.update l (Obj.mapSeq f),toks:=t' }:=by
 have q:=PySem.IsL.update e f;rw[hf] at q;refine I.write (x:=l) (e:=l) (by rw[hH];exact trivial) (.inl rfl) (fun b' u hb hu=>(Heap.get?_update_other s.heap (Obj.mapSeq f) (Ne.symm hb)).trans hu) ⟨_,q⟩ ?_;exact⟨hz,its',_,hv,q⟩
theorem Inv.lnew {its:List Value}{t':Nat}(I:Inv X pins σ H s)(hv:bN ys its)(hz:ys.length<=sizeLine) :
  Inv X pins σ (upd H s.heap.objs.size (.lst ys)) { s with heap:=s.heap.push { cls:=.type "list",data:=.seq its.toArray },toks:=t' } :=
 I.laid (fun _ _ q=>Heap.get?_push_of_some _ q) (af _) ⟨hz,its,0,hv,Heap.get?_push_size _ rfl⟩
theorem Inv.fresh (I:Inv X pins σ H s):H s.heap.objs.size=none:=I.hok.fresh (af _)
theorem Inv.lstM (I:Inv X pins σ H s)(hH:H l=some (.lst xs)):xs.length<=sizeLine∧∃ (its:List Value) (n:Nat),bN xs its∧xs.length=its.length∧s.heap.get? l=some { cls:=.type "list",data:=.seq its.toArray n }:=by
 obtain⟨z,its,n,r,e⟩:=I.hok l _ hH;exact⟨z,its,n,r,r.length,e⟩
theorem Gp {n:Nat}(h:n<=sizeLine):Builtin.List.listTooLong n=false:=by
 unfold Builtin.List.listTooLong;exact decide_eq_false (by omega)
end
section
variable {X:Cx}
def Kz:V->List V->Hp->VK->Prop:=fun x vs H Q=>∃ l xs y,x = .ref l∧vs=[y]∧H l=some (.lst xs)∧xs.length<sizeLine∧Q .non (upd H l (.lst (xs++[y])))
theorem cL:MtM X "list.append" Kz:=by
 intro pins s σ H x vs v us Q I rx rv h;obtain⟨l,xs,y,rfl,rfl,hH,hz,q⟩:=h;cases rx;obtain⟨u,rfl,ru⟩:=rv.one;obtain⟨z,its,n,r,hl,e⟩:=I.lstM hH;refine call_meets F.slot_list_append ⟨_,e,rfl⟩ F.entry_list_append (F.args_list_append_2 _ _) (PySem.list_append l its.toArray n u (by rw[ao];omega)) ⟨e,?_⟩;refine⟨.non,_,I.lset (its':=its++[u]) hH e (by simp) (r.append (.cons ru .nil)) ?_,rfl,q⟩;rw[ag,da];omega
def Km:V->List V->Hp->VK->Prop:=fun x vs H Q=>∃ l b xs zs,x = .ref l∧vs=[.ref b]∧H l=some (.lst xs)∧H b=some (.lst zs)∧xs.length+zs.length<=sizeLine∧Q .non (upd H l (.lst (xs++zs)))
theorem Dm:MtM X "list.extend" Km:=by
 intro pins s σ H x vs v us Q I rx rv h;obtain⟨l,b,xs,zs,rfl,rfl,hH,hB,hz,q⟩:=h;cases rx;obtain⟨u,rfl,ru⟩:=rv.one;cases ru;obtain⟨z,its,n,r,hl,e⟩:=I.lstM hH;obtain⟨z2,its2,n2,r2,hl2,e2⟩:=I.lstM hB;have hsz:its.toArray.size+its2.toArray.size<=sizeLine:=by rw[ao,ao];omega
 have hlong:¬ (!its.toArray.isEmpty&&Builtin.List.listTooLong (its.toArray.size+its2.toArray.size))=true:=by
  rw[Gp hsz,ij];exact ak
 refine call_meets F.slot_list_extend ⟨_,e,rfl⟩ F.entry_list_extend (F.args_list_extend_2 _ _)
  (AutoSeq1.list_extend_list_list_0 l its.toArray n b its2.toArray n2 hlong (by rw[ao];omega) (by omega)) ⟨e,e2,?_⟩
 refine⟨.non,_,I.lset (its':=its++its2) hH e (by simp) (r.append r2) ?_,rfl,q⟩;rw[ag];omega
def Tr:V->List V->Hp->VK->Prop:=fun x vs H Q=>∃ l xs y,x = .ref l∧vs=[]∧H l=some (.lst xs)∧xs[xs.length-1]?=some y∧Q y (upd H l (.lst xs.dropLast))
theorem Oc:MtM X "list.pop" Tr:=by
 intro pins s σ H x vs v us Q I rx rv h;obtain⟨l,xs,y,rfl,rfl,hH,hy,q⟩:=h;cases rx;have hus:=rv.zero;subst hus;obtain⟨z,its,n,r,hl,e⟩:=I.lstM hH;obtain⟨u,hu,ru⟩:=r.get hy;have hy':its.toArray[its.toArray.size-1]?=some u:=by
  show its.toArray[its.length-1]?=some u;rw[<- et,<- hl];exact hu
 refine call_meets F.slot_list_pop ⟨_,e,rfl⟩ F.entry_list_pop (F.args_list_pop_1 _) (MeetsSeq.list_pop_last l its.toArray n u hy' (by rw[ao];omega)) ⟨e,?_⟩;refine⟨y,_,I.lset (its':=its.dropLast) hH e ?_ r.dropLast ?_,ru,q⟩
 ·show its.toArray.eraseIdxIfInBounds (its.toArray.size-1)=its.dropLast.toArray
  rw[ao,List.eraseIdxIfInBounds_toArray,yL]
 ·rw[List.length_dropLast]
  omega
end
section
variable {prog:Program}{w:World}{A:Around}{E:Value->Shared->Prop}{s:Shared}
end
section
variable {X:Cx}
end
end L2
namespace Att
open PySem PySem.W PySem.Calls PyProof.Rows
theorem oQ {P:Params}{h:Heap}:∀ (ns:List Int) (vs:List Value),WellAll P h vs (ns.map WData.int)->IntsAre vs ns:=by
 intro ns
 induction ns with
 | nil =>
  intro vs w;rw[je] at w;cases w;exact .nil
 | cons n ns ih =>
  intro vs w;rw[a0] at w
  cases w with
  | cons a b =>
   cases a;exact .cons _ _ (ih _ b)
theorem Ct {l:OpenLaw}{n:Nat}(hn:l.most=some n){P:Params}{h:Heap}{args:List WData}{vals:List Value}
  (hpre:l.row.toRowW.claim.pre args=true) (hwl:WellAll P h vals args) :
  ∃ a vs ns,vals=[Value.ref a]∧args=[WData.list (ns.map WData.int)]∧h.get? a=some { cls:=.type "list",data:=.seq vs.toArray }∧IntsAre vs ns∧ns.length<=n:=by
 have hsh:WShape.hasAll [] args [.list .int]=true:=(pre_splitW hpre).1;have hc:l.pre.holds [] { args:=args }=true:=(pre_splitW hpre).2;obtain⟨d,r,rfl,h1,h2⟩:=hasAllW_cons hsh;obtain rfl:=hasAllW_nil h2;obtain⟨xs,rfl,h3⟩:=hasW_list h1;obtain⟨ns,rfl⟩:=items_int h3;have hlen:ns.length<=n:=by
  unfold OpenLaw.pre at hc;have h4:(WTm.not (.lt (.lit (.int (n:Int))) (.len (.arg 0)))).holds [] { args:=[.list (ns.map .int)] }=true:=by
   have h4:=(holds_andW hc).1;rw[hn] at h4;exact h4
  have h5:=condW_of h4 (w_not (w_lt w_lit (w_len_list (w_arg rfl))));rw[aR] at h5;refine qv fun q=>?_
  have q':(n:Int)<((ns.length:Nat):Int):=by omega
  first
   | (rw[decide_eq_true q'] at h5;exact absurd h5 (by decide))
   | (simp at h5;omega)
 cases hwl with
 | cons w1 w2 =>
  cases w2
  cases w1 with
  | list ho hall=>exact⟨_,_,ns,rfl,rfl,ho,oQ ns _ hall,hlen⟩
theorem Cr (l:OpenLaw)(args:List WData):l.row.toRowW.claim.post args (.bool true) args=true :=
 postW_of (r:=l.row.toRowW) (X:=(true==true))
  (show WShape.has [] (.bool true) .bool=true by first | rfl | decide | simp[WShape.has,WShape.arms,WShape.armsAll])
  (show (WTm.eq .res (.lit (.bool true))).value [] { args:=args,res:=some (.bool true),after:=args }=some (.bool (true==true)) from w_eq_bool (w_res rfl) w_lit) rfl
theorem xP {l:OpenLaw}{n:Nat}{q:Program}{loose:List Str}{XP:(Str->Option Value)->Heap->Prop}{YP:World->Heap->Prop}{d:DefRec}
  (hn:l.most=some n) (hdf:d.params.defaults=[])
  (call:∀ (w:World) (s₀ s₁:Shared) (mg mb:Str->Option Value) (fa:Addr) (o:Obj) (pm cd doc:Value) (a:Addr) (vs:List Value) (ns:List Int),
   Ground q loose [] XP w s₀ mg mb s₁.heap->YP w s₁.heap ->
   s₁.heap.get? fa=some o->o.data = .func (docDef d.name d.params d.body d.scope pm cd doc)->s₁.heap.CodeRec cd d.name->mg d.name=some (.ref fa) ->
   s₁.heap.get? a=some { cls:=.type "list",data:=.seq vs.toArray }->IntsAre vs ns->ns.length<=n->s₁.gens = #[] ->
   codeAny (model l.prog w) callerA (.call (.ref fa) ⟨[.ref a],[]⟩) (fun r s'=>r = .ok (.ret (.bool true))∧OldK s₁.heap s'.heap∧s'.os=s₁.os∧AllBare s'.gens) s₁) :
  WalkO q loose XP YP l.row.toRowW d [] (fun f vs=>r6 f vs):=by
 intro w s₀ s₁ mg mb G Y fa o pm cd doc dV kV ho hd hcd hD hmg hg args vals as hpre hlay hrd hwl hlo;obtain rfl:dV = .none:=Dflts.none hD hdf;obtain rfl:kV = .none:=Dflts.noKw hD;obtain⟨a,vs,ns,rfl,rfl,hobj,hints,hlen⟩:=Ct hn hpre hwl;refine enter_call (codeAny_mono (call w s₀ s₁ mg mb fa o pm cd doc a vs ns G Y ho (fd_plain hd) hcd hmg hobj hints hlen hg) fun r s' hq=>?_);obtain⟨rfl,h2,h3,h4⟩:=hq;exact⟨.inl ⟨.bool true,.bool true,[],rfl,fun _=>rfl,.bool true,Cr l _,fun _=>⟨jw,fun _ hm=>(nomatch hm)⟩⟩,h2,h3,h4⟩
section
variable {prog:Program}{w:World}{A:Around}{E:Value->Shared->Prop}{s:Shared}{K:Frag}
end
end Att
namespace L2
open PySem PySem.Spec PyProof.Rows
theorem sE:∀ {vs:List Value} {ns:List Int},IntsAre vs ns->bN (ns.map V.int) vs
 | _,_,.nil=>.nil
 | _,_,.cons n t h=>.cons ⟨t,rfl⟩ (sE h)
def Qe (H:Hp):Prop:=∀ b,H b=none∨∃ o xs,H b=some (.frz o (.lst xs))
theorem Ip {P:Program}{w:World}{K:ac}{mg mb:Str->Option Value}{CX:CXT}{k:Nat}{fa a:Addr}{fd:FuncData}{x:Str}{sp:Sp}{s₁:Shared}{vs:List Value}{ns:List Int}
  (KX:K.In s₁.heap) (hns:s₁.heap.Ns mainGlobals mg) (hb:s₁.heap.Ns builtinsNs mb) (hbb:∀ x:Str,x ≠ "__name__" -> mb x=bootBuiltins x) (hlim:s₁.heap.NoLimit) (hg:s₁.gens = #[])
  (ha:s₁.heap.get? a=some { cls:=.type "list",data:=.seq vs.toArray }) (hi:IntsAre vs ns) (hl:ns.length<=sizeLine) (hr:fI k callerA)
  (F:∀ base:Heap,K.In base->base.Ns mainGlobals mg->cN P w K mg base CX k fa fd [x] sp) (hbind:∀ (s:Shared) (u:Value),BindsTo s fd ⟨[u],[]⟩ [(x,u)])
  (hsp:∀ H:Hp,Qe H->SqL K H a (ns.map V.int)->sp [.ref a] H (fun v _=>v = .bl true) fun _ _ _=>False)
  (hCX:∀ H e s',CX [] H s₁ (fun _ _ _=>False) e s'->False) :
  codeAny (model P w) callerA (.call (.ref fa) ⟨[.ref a],[]⟩) (fun r s'=>r = .ok (.ret (.bool true))∧OldK s₁.heap s'.heap∧s'.os=s₁.os∧AllBare s'.gens) s₁:=by
 have rv:=sE hi;have lenV:=hi.length;have core:∀ H:Hp,Qe H->SqL K H a (ns.map V.int)->HOk P w H s₁.heap->(∀ b,H b≠none->b=a)->(H a≠none->K.lookup a=none) ->
   codeAny (model P w) callerA (.call (.ref fa) ⟨[.ref a],[]⟩) (fun r s'=>r = .ok (.ret (.bool true))∧OldK s₁.heap s'.heap∧s'.os=s₁.os∧AllBare s'.gens) s₁:=by
  intro H hO hS hok hA hK;have base_of:∀ {b:Addr} {o:Obj},s₁.heap.get? b=some o->H b=none->(uD s₁.heap H).get? b=some o:=fun e n=>Fv e n
  have noA:∀ {b:Addr} {o:Obj} {es:Array DictEntry} {ep:Nat},s₁.heap.get? b=some o->o.data = .dict es ep->H b=none:=fun {b o es ep} e d=>by
   cases q:H b with
   | none=>rfl
   | some u =>
    have e':b=a:=hA b (by rw[q];simp);subst e';rw[ha] at e;cases e;have d':Data.seq vs.toArray _=Data.dict es ep:=d;cases d'
  have nsK:∀ {b:Addr} {m:Str->Option Value},s₁.heap.Ns b m->(uD s₁.heap H).Ns b m:=fun {b m} ⟨o,es,ep,e,d,r⟩=>⟨o,es,ep,base_of e (noA e d),d,r⟩
  have hKb:K.In (uD s₁.heap H):=fun b o e=>base_of (KX b o e) (by
   cases q:H b with
   | none=>rfl
   | some u =>
    have e':b=a:=hA b (by rw[q];simp);subst e';rw[hK (by rw[q];simp)] at e;cases e)
  have hM:Mod K mg (uD s₁.heap H):=⟨hKb,nsK hns,⟨mb,nsK hb,hbb⟩,let ⟨mc,h1,h2⟩:=hlim;⟨mc,nsK h1,h2⟩⟩;have e0:zI P w K mg (uD s₁.heap H) callerA [] s₁ H:=⟨rfl,hM,fun b o e=>Lo e,lm (Dw _ _),trivial,fun b hb=>absurd (show b∈([]:List Addr) from hb) (by simp),hok,.of_eq hg⟩;refine codeAny_mono ((F _ hKb (nsK hns)).run callerA [] s₁ H ⟨[.ref a],[]⟩ [.ref a] [.ref a] _ _ hr e0 (hbind s₁ (.ref a)) (.cons rfl .nil) (hsp H hO hS)) fun r s' h=>?_
  cases r with
  | error e=>exact (hCX H e s' h).elim
  | ok fl =>
   cases fl with
   | next=>exact False.elim h
   | brk=>exact False.elim h
   | cont=>exact False.elim h
   | ret u =>
    obtain⟨v,H',os,bare,un,hok',r',q⟩:=h;have q':v = .bl true:=q;subst q';obtain rfl:u=Value.bool true:=r';refine⟨rfl,OldK.of_keep fun b o e=>?_,os,bare⟩
    cases q:H b with
    | none=>exact un.keep b o e q (by intro z;exact absurd (show b∈([]:List Addr) from z) (by simp)) (by simp)
    | some u =>
     rcases hO b with z | ⟨ob,xs,z⟩
     ·rw[q] at z;cases z
     ·have z2:=un.frzs b ob _ z
      obtain⟨e1,_⟩:=hok b _ z;obtain⟨e2,_⟩:=hok' b _ z2;rw[e] at e1;cases e1;exact e2
 cases hk:K.lookup a with
 | some o =>
  have e:=KX a o hk;rw[ha] at e;cases e;refine core (fun _=>none) (fun _=>.inl rfl) (.inr ⟨_,vs.toArray,_,hk,rfl,rfl,rfl,by rw[ao,lenV];exact hl,by simpa using rv⟩) (fun b u z=>by have z':(none:Option HO)=some u:=z;cases z') (fun b z=>absurd rfl z) fun z=>absurd rfl z
 | none =>
  refine core (fun b=>if b=a then some (.frz { cls:=.type "list",data:=.seq vs.toArray } (.lst (ns.map V.int))) else none) (fun b=>?_) (.inl (.inr ⟨{ cls:=.type "list",data:=.seq vs.toArray },if_pos rfl⟩)) (fun b u z=>?_) (fun b z=>?_) fun _=>hk
  ·by_cases hb:b=a
   ·exact .inr ⟨_,_,if_pos hb⟩
   ·exact .inl (if_neg hb)
  ·by_cases hb:b=a
   ·have z':=(if_pos hb).symm.trans z
    cases z';subst hb;exact⟨ha,by rw[aR];exact hl,vs,_,rv,ha⟩
   ·have z':=(if_neg hb).symm.trans z
    cases z'
  ·by_cases hb:b=a
   ·exact hb
   ·exact absurd (if_neg hb) z
theorem Ku {l:oh}{n k:Nat}{q:Program}{loose:List Str}{XP:(Str->Option Value)->Heap->Prop}{YP:World->Heap->Prop}{d:DefRec}{K:Params->ac}{CX:World->CXT}{sp:World->Sp}{x:Str}
  (hn:l.most=some n) (hn2:n<=sizeLine) (hdf:d.params.defaults=[]) (hr:fI k callerA)
  (hY:∀ (w:World) (h:Heap),YP w h->(K w.params).In h)
  (F:∀ (w:World) (mg:Str->Option Value) (fa:Addr) (h:Heap),(K w.params).In h->h.Ns mainGlobals mg->mg d.name=some (.ref fa) ->
   ∃ fd:FuncData,(∀ (s:Shared) (u:Value),BindsTo s fd ⟨[u],[]⟩ [(x,u)]) ∧
    ∀ base:Heap,(K w.params).In base->base.Ns mainGlobals mg->cN l.prog w (K w.params) mg base (CX w) k fa fd [x] (sp w))
  (hsp:∀ (w:World) (H:Hp) (a:Addr) (ns:List Int),ns.length<=n->Qe H->SqL (K w.params) H a (ns.map V.int)->sp w [.ref a] H (fun v _=>v = .bl true) fun _ _ _=>False)
  (hCX:∀ (w:World) (H:Hp) (s:Shared) (e:Value) (s':Shared),CX w [] H s (fun _ _ _=>False) e s'->False) :
  ti q loose XP YP l.row.toRowW d [] (fun f vs=>r6 f vs):=by
 refine Att.xP hn hdf fun w s₀ s₁ mg mb fa o pm cd doc a vs ns G Y ho hd hcd hmg hobj hints hlen hg=>?_
 have KX:=hY w _ Y;obtain⟨fd,hb,hF⟩:=F w mg fa _ KX G.T.g hmg;exact Ip KX G.T.g G.T.b G.T.builtins G.T.nolimit hg hobj hints (a7 hlen hn2) hr hF hb (fun H hO hS=>hsp w H a ns hlen hO hS) fun H e s'=>hCX w H s₁ e s'
def Lg (s:Stmt)(j:Nat):Stmt:=match s with
 | .ClassDef _ _ _ body _ _ _ _ _ _ _=>body.getD j (.Pass ⟨0,0,0,0⟩)
 | _=>.Pass ⟨0,0,0,0⟩
def fT (s:Stmt):Arguments:=match s with
 | .FunctionDef _ a _ _ _ _ _ _ _ _=>a
 | _=>{ posonlyargs:=[],args:=[],vararg:=none,kwonlyargs:=[],kw_defaults:=[],kwarg:=none,defaults:=[] }
def fA (s:Stmt):List Stmt:=match s with
 | .FunctionDef _ _ b _ _ _ _ _ _ _=>b
 | _=>[]
def aI (s:Stmt):Scope:=match s with
 | .FunctionDef _ _ _ _ _ _ sc _ _ _=>sc
 | _=>{ kind:=.function,names:=[],isGenerator:=false,isCoroutine:=false }
abbrev E0:XK:=fun _ _ _=>False
structure Fun (K:ac)(x qual:Str)(st:Stmt)(f:Addr)(fd:FuncData):Prop where
 ex:∃ (oc:Value) (od:Option Addr) (kV doc pm:Value) (an:Option Addr) (cdv ct:Value) (osl:Array (Option Value)),
  fd=fz x qual (fT st) (fA st) (aI st) .none kV doc pm an cdv ct∧K.lookup f=some ⟨oc,od,.func fd,osl⟩∧ii K cdv qual=true
 kp:ff K (.ref f)=true
section
variable {P:Program}{w:World}{K:ac}{mg:Str->Option Value}{base:Heap}
theorem Fun.binds {x qual:Str}{st:Stmt}{f:Addr}{fd:FuncData}{ps:List Str}(F:Fun K x qual st f fd)
  (h:∀ (kV doc pm:Value) (an:Option Addr) (cdv ct:Value) (us:List Value),us.length=ps.length->bindArgs (fz x qual (fT st) (fA st) (aI st) .none kV doc pm an cdv ct) ⟨us,[]⟩=pure (ps.zip us)):lI K fd ps []:=by
 obtain⟨oc,od,kV,doc,pm,an,cdv,ct,osl,rfl,lk,hcd⟩:=F.ex;exact .all (h kV doc pm an cdv ct)
theorem zZ {x qual:Str}{st:Stmt}{f:Addr}{oc:Value}{od an:Option Addr}{osl:Array (Option Value)}{kV doc pm cdv ct:Value}(l:K.lookup f=some ⟨oc,od,.func (fz x qual (fT st) (fA st) (aI st) .none kV doc pm an cdv ct),osl⟩)
 (c:ii K cdv qual=true) (k:ff K (.ref f)=true):Fun K x qual st f (fz x qual (fT st) (fA st) (aI st) .none kV doc pm an cdv ct):=⟨⟨oc,od,kV,doc,pm,an,cdv,ct,osl,rfl,l,c⟩,k⟩
end
theorem eC {A:Around}{k:Nat}(hr:fI k A):A.units+1<cLine:=d7 (jk (by decide:1<=64) _) hr.units
section
variable {X:Cx}
theorem pv (i:Nat){x:Str}{pos:Pos}(hN:X.N[i]?=some x:=by rfl)(hv:Vis X.env.scope x:=by first | exact Or.inl rfl | exact Or.inr (Or.inl rfl) | exact Or.inr (Or.inr rfl))(hd:(x==("__debug__" : Str))=false:=by decide)
 (hcd:(x==("__classdict__" : Str))=false:=by decide):PE X (.Name x pos) (Re i):=Ou hN hv hd hcd
end
theorem nK {A B:Prop}(h:B):if false=true then A else B:=by
 rw[if_neg ak];exact h
theorem Jr {A B:Prop}(h:A):if true=true then A else B:=by
 rw[if_pos rfl];exact h
theorem fN {c A B:Prop}[Decidable c](h1:c->A)(h2:¬ c->B):if c then A else B:=by
 by_cases h:c
 ·rw[if_pos h]
  exact h1 h
 ·rw[if_neg h]
  exact h2 h
theorem Nh {c A B:Prop}[Decidable c](hc:c)(h:B):if (!decide c)=true then A else B:=by
 rw[decide_eq_true hc];exact nK h
def aM (H H':Hp):Prop:=∀ b o,H b=some o->H' b=some o
theorem aM.refl (H:Hp):aM H H:=fun _ _ h=>h
theorem aM.trans {H H1 H2:Hp}(a:aM H H1)(b:aM H1 H2):aM H H2:=fun c o h=>b c o (a c o h)
theorem aM.seq {K:ac}{H H':Hp}{a:Addr}{xs:List V}(e:aM H H')(h:SqL K H a xs):SqL K H' a xs:=by
 rcases h with (h | ⟨o,h⟩) | h
 ·exact .inl (.inl (e _ _ h))
 ·exact .inl (.inr ⟨o,e _ _ h⟩)
 ·exact .inr h
end L2
namespace Wd
abbrev W:=List Nat
theorem Tq {a b c:W}(h:¬ b<a)(h':¬ c<b):¬ c<a:=fun hc=>k8.mpr (List.le_trans (k8.mp h) (k8.mp h')) hc
def rot (k:Nat)(w:W):W:=w.drop k++w.take k
def uM (w:W):Nat->W
 | 0=>w
 | n+1=>if rot (n+1) w<uM w n then rot (n+1) w else uM w n
def lH (w:W):W:=uM w (w.length-1)
def rep (n:Nat)(l:W):W:=(lx n l).flatten
theorem rJ (n:Nat)(l:W):rep (n+1) l=l++rep n l:=by unfold rep;rw[pb,List.flatten_cons]
theorem xX (l:W):rep 0 l=[]:=rfl
theorem Kk (l:W):rep 1 l=l:=by rw[rJ,xX,dy]
theorem Bb (n:Nat)(l:W):(rep n l).length=n*l.length:=by
 induction n with
 | zero=>rw[xX,Nat.zero_mul];rfl
 | succ n ih=>rw[rJ,ag,ih,Nat.succ_mul,iw]
end Wd
namespace Dt
abbrev Mx:=Nat->Nat->Int
def dB:Nat->(Nat->Int)->Int
 | 0,_=>0
 | n+1,f=>dB n f+f n
def sk (j k:Nat):Nat:=if k<j then k else k+1
def sg (j:Nat):Int:=if j % 2=0 then 1 else -1
def det:Nat->Mx->Int
 | 0,_=>1
 | n+1,A=>dB (n+1) fun j=>sg j*(A 0 j*det n fun i k=>A (i+1) (sk j k))
section
variable {n N p q i j k l:Nat}{A B:Mx}{f g:Nat->Int}{c m:Int}
theorem eB:∀ {n:Nat},(∀ j,j<n->f j=g j)->dB n f=dB n g
 | 0,_=>rfl
 | n+1,h=>by
  show dB n f+f n=dB n g+g n;rw[eB (n:=n) fun j hj=>h j (by omega),h n (by omega)]
theorem mK:∀ {n:Nat},dB n (fun j=>f j+c*g j)=dB n f+c*dB n g
 | 0=>by show (0:Int)=0+c*0;omega
 | n+1=>by
  show dB n (fun j=>f j+c*g j)+(f n+c*g n)=(dB n f+f n)+c*(dB n g+g n);rw[mK (n:=n),oy];omega
theorem jU:∀ {n:Nat},(∀ j,j<n->f j=0)->dB n f=0
 | 0,_=>rfl
 | n+1,h=>by
  show dB n f+f n=0;rw[jU (n:=n) fun j hj=>h j (by omega),h n (by omega)];rfl
theorem Bq {n:Nat}:dB n (fun j=>c*g j)=c*dB n g:=by
 have h:=mK (n:=n) (f:=fun _=>0) (c:=c) (g:=g);rw[jU (fun _ _=>rfl)] at h;rw[eB (g:=fun j=>0+c*g j) fun j _=>by omega,h];omega
theorem tQ:∀ {n:Nat},(∀ j,0<j->j<n+1->f j=0)->dB (n+1) f=f 0
 | 0,_=>by show (0:Int)+f 0=f 0;omega
 | n+1,h=>by
  show dB (n+1) f+f (n+1)=f 0;rw[tQ (n:=n) fun j h0 hj=>h j h0 (by omega),h (n+1) (by omega) (by omega)];omega
theorem Gr (h:k<n):sk j k<n+1:=by unfold sk;split <;> omega
theorem bR:∀ {n:Nat} {A B:Mx},(∀ i k,i<n->k<n->A i k=B i k)->det n A=det n B
 | 0,_,_,_=>rfl
 | n+1,A,B,h=>by
  refine eB fun j hj=>?_
  rw[h 0 j (by omega) hj,bR (n:=n) fun i k hi hk=>h (i+1) (sk j k) (by omega) (Gr hk)]
def bY (A:Mx)(i:Nat)(u:Nat->Int):Mx:=fun a k=>if a=i then u k else A a k
theorem kL {u:Nat->Int}:bY A i u i=u:=by
 funext k
 exact if_pos rfl
theorem jB {u:Nat->Int}{a:Nat}(h:a≠i):bY A i u a=A a:=by
 funext k
 exact if_neg h
theorem yZ {u:Nat->Int}:(fun a k=>bY A (i+1) u (a+1) (sk j k))=bY (fun a k=>A (a+1) (sk j k)) i fun k=>u (sk j k):=by
 funext a k
 unfold bY;by_cases h:a=i
 ·rw[if_pos h,if_pos (by omega)]
 ·rw[if_neg h,if_neg (by omega)]
theorem mC:∀ {n:Nat} {A:Mx} {i:Nat} {u v:Nat->Int},i<n->det n (bY A i fun k=>u k+c*v k)=det n (bY A i u)+c*det n (bY A i v)
 | n+1,A,0,u,v,_=>by
  have e:∀ w:Nat->Int,det (n+1) (bY A 0 w)=dB (n+1) fun j=>sg j*(w j*det n fun i k=>A (i+1) (sk j k)):=fun w=>by
   refine eB fun j _=>?_
   rw[kL,bR (n:=n) (A:=fun i k=>bY A 0 w (i+1) (sk j k)) (B:=fun i k=>A (i+1) (sk j k)) fun a k _ _=>by rw[jB (by omega)]]
  rw[e,e,e,<- mK];refine eB fun j _=>?_
  rw[Int.add_mul,oy]
  congr 1
  rw[dq c,<- dq (sg j) c,gq (sg j) c,dq c]
 | n+1,A,i+1,u,v,h=>by
  have e:∀ w:Nat->Int,det (n+1) (bY A (i+1) w)=dB (n+1) fun j=>sg j*(A 0 j*det n (bY (fun a k=>A (a+1) (sk j k)) i fun k=>w (sk j k))):=fun w=>by
   refine eB fun j _=>?_
   rw[yZ,jB (by omega)]
  rw[e,e,e,<- mK];refine eB fun j _=>?_
  rw[mC (n:=n) (i:=i) (u:=fun k=>u (sk j k)) (v:=fun k=>v (sk j k)) (by omega),oy,oy]
  congr 1
  rw[<- dq (A 0 j) c,gq (A 0 j) c,dq c,<- dq (sg j) c,gq (sg j) c,dq c]
theorem Bk:sg (j+1) = - sg j:=by
 unfold sg;by_cases h:j % 2=0
 ·rw[if_pos h,if_neg (by omega)]
 ·rw[if_neg h,if_pos (by omega)];rfl
theorem Rt:sg j*sg j=1:=by
 unfold sg;split <;> rfl
theorem dbl {F:Nat->Nat->Int}:∀ {N:Nat},(∀ j l,l<j->j<=N->F j l+F l (j-1)=0)->dB (N+1) (fun j=>dB N (F j))=0
 | 0,_=>rfl
 | N+1,h=>by
  have ih:=dbl (N:=N) fun j l hl hj=>h j l hl (by omega)
  have e1:dB (N+1) (fun j=>dB (N+1) (F j))=dB (N+1) (fun j=>dB N (F j)+1*F j N):=eB fun j _=>by
   show dB N (F j)+F j N=_;omega
  have e2:dB (N+1) (fun l=>F l N+1*F (N+1) l)=0:=jU fun l hl=>by
   have:=h (N+1) l (by omega) (by omega)
   rw[ly] at this;omega
  rw[mK] at e1 e2;show dB (N+1) (fun j=>dB (N+1) (F j))+dB (N+1) (F (N+1))=0;have e3:dB (N+1) (F (N+1))=dB (N+1) fun l=>F (N+1) l:=rfl
  rw[e1,ih];omega
theorem Sg (h:l<j):sk j (sk l k)=sk l (sk (j-1) k):=by
 have a:∀ x y:Nat,sk x y=if y<x then y else y+1:=fun _ _=>rfl
 by_cases h1:k<l
 ·rw[a l k,if_pos h1,a j k,if_pos (by omega),a (j-1) k,if_pos (by omega),a l k,if_pos h1]
 ·rw[a l k,if_neg h1]
  by_cases h2:k+1<j
  ·rw[a j,if_pos h2,a (j-1) k,if_pos (by omega),a l k,if_neg h1]
  ·rw[a j,if_neg h2,a (j-1) k,if_neg (by omega),a l,if_neg (by omega)]
theorem Su (h:∀ k,k<n+2->A 0 k=A 1 k):det (n+2) A=0:=by
 have e:det (n+2) A=dB (n+2) fun j=>dB (n+1) fun l=>sg j*(A 0 j*(sg l*(A 1 (sk j l)*det n fun i k=>A (i+2) (sk j (sk l k))))):=by
  refine eB fun j _=>?_
  show sg j*(A 0 j*dB (n+1) fun l=>sg l*(A 1 (sk j l)*det n fun i k=>A (i+2) (sk j (sk l k))))=_;rw[<- Bq,<- Bq]
 rw[e];refine dbl fun j l hl hj=>?_
 have s1:sk j l=l:=by unfold sk;rw[if_pos hl]
 have s2:sk l (j-1)=j:=by unfold sk;rw[if_neg (by omega)];omega
 have s3:(fun i k=>A (i+2) (sk l (sk (j-1) k)))=fun i k=>A (i+2) (sk j (sk l k)):=by
  funext i k
  rw[Sg hl]
 rw[s1,s2,s3,<- h j (by omega),<- h l (by omega)];have s4:sg j = - sg (j-1):=by rw[<- Bk,gv (by omega)]
 rw[s4];generalize det n (fun i k=>A (i+2) (sk j (sk l k)))=d
 grind
theorem alt:∀ {n i:Nat} {A:Mx},i+1<n->(∀ k,k<n->A i k=A (i+1) k)->det n A=0
 | n+2,0,A,_,h=>Su h
 | n+1,i+1,A,hi,h=>by
  refine jU fun j _=>?_
  rw[alt (n:=n) (i:=i) (A:=fun a k=>A (a+1) (sk j k)) (by omega) fun k hk=>h (sk j k) (Gr hk),gb,gb]
def tr (p i:Nat):Nat:=if i=p then p+1 else if i=p+1 then p else i
theorem nA {u v:Nat->Int}(h:i≠j):bY (bY A i u) j v=bY (bY A j v) i u:=by
 funext a k
 unfold bY;by_cases h1:a=i
 ·rw[if_neg (by omega),if_pos h1,if_pos h1]
 ·by_cases h2:a=j
  ·rw[if_pos h2,if_neg h1,if_pos h2]
  ·rw[if_neg h2,if_neg h1,if_neg h1,if_neg h2]
theorem vZ {u v:Nat->Int}(h:i<n):det n (bY A i fun k=>u k+v k)=det n (bY A i u)+det n (bY A i v):=by
 have:=mC (c:=1) (A:=A) (u:=u) (v:=v) h
 rw[ir] at this;rw[<- this]
 congr 2
 funext k
 omega
theorem iB (u:Nat->Int)(h:∀ k,u k=A i k):det n (bY A i u)=det n A:=bR fun a k _ _=>by
 unfold bY;by_cases e:a=i
 ·rw[if_pos e,h,e]
 ·rw[if_neg e]
theorem swap (h:p+1<n):det n (fun i k=>A (tr p i) k) = - det n A:=by
 have D:∀ x y:Nat->Int,∃ d,det n (bY (bY A p x) (p+1) y)=d:=fun _ _=>⟨_,rfl⟩
 have z:∀ w:Nat->Int,det n (bY (bY A p w) (p+1) w)=0:=fun w=>alt h fun k _=>by rw[jB (by omega),kL,kL]
 have l2:∀ x y y':Nat->Int,det n (bY (bY A p x) (p+1) fun k=>y k+y' k)=det n (bY (bY A p x) (p+1) y)+det n (bY (bY A p x) (p+1) y'):=fun x y y'=>vZ h
 have l1:∀ x x' y:Nat->Int,det n (bY (bY A p fun k=>x k+x' k) (p+1) y)=det n (bY (bY A p x) (p+1) y)+det n (bY (bY A p x') (p+1) y):=fun x x' y=>by
  rw[nA (by omega),nA (u:=x) (by omega),nA (u:=x') (by omega)];exact vZ (by omega)
 have e0:=z fun k=>A p k+A (p+1) k
 rw[l2,l1,l1,z,z] at e0;have e1:det n (bY (bY A p (A p)) (p+1) (A (p+1)))=det n A:=by
  rw[iB _ (fun k=>by rw[jB (by omega)]),iB _ (fun k=>rfl)]
 have e2:det n (bY (bY A p (A (p+1))) (p+1) (A p))=det n fun i k=>A (tr p i) k:=by
  refine bR fun a k _ _=>?_
  unfold bY tr;by_cases h1:a=p+1
  ·rw[if_pos h1,if_neg (by omega),if_pos h1]
  ·rw[if_neg h1]
   by_cases h2:a=p
   ·rw[if_pos h2,if_pos h2]
   ·rw[if_neg h2,if_neg h2,if_neg h1]
 rw[e1,e2] at e0;omega
theorem pG:∀ (d:Nat) {i:Nat} {A:Mx},i+1+d<n->(∀ k,k<n->A i k=A (i+1+d) k)->det n A=0
 | 0,i,A,hi,h=>alt hi h
 | d+1,i,A,hi,h=>by
  have h2:=pG d (i:=i) (A:=fun a k=>A (tr (i+1+d) a) k) (by omega) fun k hk=>by
   show A (tr (i+1+d) i) k=A (tr (i+1+d) (i+1+d)) k;unfold tr;rw[if_neg (by omega),if_neg (by omega),if_pos rfl];exact h k hk
  rw[swap (by omega)] at h2;omega
theorem Pk {t:Int}(h0:0<i)(h:i<n):det n (bY A i fun k=>A i k-t*A 0 k)=det n A:=by
 have e:=mC (c:=-t) (A:=A) (u:=A i) (v:=A 0) h;rw[iB (A i) fun _=>rfl,pG (i-1) (i:=0) (A:=bY A i (A 0)) (by omega) fun k _=>?_,gb,qh] at e
 ·rw[<- e]
  congr 2
  funext k
  rw[qy];omega
 ·rw[jB (by omega),show 0+1+(i-1)=i by omega,kL]
theorem Hw {t:Nat->Int}:∀ {m:Nat},m<=n->det n (fun i k=>if 0<i∧i<m then A i k-t i*A 0 k else A i k)=det n A
 | 0,_=>bR fun i k _ _=>if_neg (by omega)
 | m+1,hm=>by
  rw[<- Hw (m:=m) (by omega)];by_cases h0:m=0
  ·subst h0
   exact bR fun i k _ _=>by rw[if_neg (by omega),if_neg (by omega)]
  ·rw[<- Pk (A:=fun i k=>if 0<i∧i<m then A i k-t i*A 0 k else A i k) (i:=m) (t:=t m) (by omega) (by omega)]
   refine bR fun i k _ _=>?_
   unfold bY
   dsimp only
   by_cases h1:i=m
   ·subst h1
    rw[if_pos rfl,if_pos (by omega),if_neg (by omega),if_neg (by omega)]
   ·rw[if_neg h1]
    by_cases h2:0<i∧i<m
    ·rw[if_pos h2,if_pos (by omega)]
    ·rw[if_neg h2,if_neg (by omega)]
theorem Ph:∀ {n:Nat} {A:Mx},(∀ i,i<n+1->A i 0=0)->det (n+1) A=0
 | n,A,h=>by
  refine jU fun j hj=>?_
  cases j with
  | zero=>rw[h 0 (by omega),nr,gb]
  | succ j =>
   cases n with
   | zero=>omega
   | succ n=>rw[Ph (n:=n) (A:=fun i k=>A (i+1) (sk (j+1) k)) fun i hi=>h (i+1) (by omega),gb,gb]
theorem Qo (h:∀ i,i<n->A (i+1) 0=0):det (n+1) A=A 0 0*det n fun i k=>A (i+1) (k+1):=by
 show dB (n+1) _=_;rw[tQ fun j h0 hj=>?_]
 ·show sg 0*(A 0 0*det n fun i k=>A (i+1) (sk 0 k))=_
  rw[show sg 0=1 from rfl,ir];rfl
 ·cases n with
  | zero=>omega
  | succ n =>
   rw[Ph (A:=fun i k=>A (i+1) (sk j k)) fun i hi=>by
    show A (i+1) (sk j 0)=0;rw[show sk j 0=0 by unfold sk;rw[if_pos h0]];exact h i hi,gb,gb]
def Cg (m a b:Int):Prop:=m∣a-b
theorem Cg.refl (a:Int):Cg m a a:=by unfold Cg;rw[Int.sub_self];exact Int.dvd_zero m
theorem Cg.symm {a b:Int}(h:Cg m a b):Cg m b a:=by
 unfold Cg at *;rw[<- Int.neg_sub];exact oz.mpr h
theorem Cg.trans {a b d:Int}(h:Cg m a b)(g:Cg m b d):Cg m a d:=by
 unfold Cg at *;rw[show a-d=(a-b)+(b-d) by omega];exact qz h g
theorem Cg.add {a b a' b':Int}(h:Cg m a b)(g:Cg m a' b'):Cg m (a+a') (b+b'):=by
 unfold Cg at *;rw[show a+a'-(b+b')=(a-b)+(a'-b') by omega];exact qz h g
theorem Cg.mul {a b a' b':Int}(h:Cg m a b)(g:Cg m a' b'):Cg m (a*a') (b*b'):=by
 unfold Cg at *;rw[show a*a'-b*b'=(a-b)*a'+b*(a'-b') by rw[mi,Int.mul_sub];omega];exact qz (m4 h) (mm g)
theorem Cg.sub {a b a' b':Int}(h:Cg m a b)(g:Cg m a' b'):Cg m (a-a') (b-b'):=by
 unfold Cg at *;rw[show a-a'-(b-b')=(a-b)-(a'-b') by omega];exact Int.dvd_sub h g
theorem Cg.neg {a b:Int}(h:Cg m a b):Cg m (-a) (-b):=by
 have:=(Cg.refl (m:=m) 0).sub h
 rwa [ln,ln] at this
theorem nH (a:Int):Cg m (a % m) a:=by
 unfold Cg;rw[Int.emod_def];rw[show a-m*(a/m)-a = -(m*(a/m)) by omega];exact oz.mpr (qi ..)
theorem Ju:∀ {n:Nat},(∀ j,j<n->Cg m (f j) (g j))->Cg m (dB n f) (dB n g)
 | 0,_=>Cg.refl _
 | n+1,h=>(Ju (n:=n) fun j hj=>h j (by omega)).add (h n (by omega))
theorem wB:∀ {n:Nat} {A B:Mx},(∀ i k,i<n->k<n->Cg m (A i k) (B i k))->Cg m (det n A) (det n B)
 | 0,_,_,_=>Cg.refl _
 | n+1,A,B,h=>Ju fun j hj=>(Cg.refl _).mul ((h 0 j (by omega) hj).mul (wB fun i k hi hk=>h (i+1) (sk j k) (by omega) (Gr hk)))
theorem Jx {t:Nat->Int}(h:∀ i,i<n->m∣A (i+1) 0-t i*A 0 0):Cg m (det (n+1) A) (A 0 0*det n fun i k=>A (i+1) (k+1)-t i*A 0 (k+1)):=by
 rw[<- Hw (n:=n+1) (A:=A) (t:=fun i=>t (i-1)) (m:=n+1) (af _)];refine (wB (B:=fun i k=>if i=0 then A 0 k else if k=0 then 0 else A i k-t (i-1)*A 0 k) fun i k hi hk=>?_).trans ?_
 ·by_cases h0:i=0
  ·subst h0
   rw[if_neg (by omega),if_pos rfl];exact Cg.refl _
  ·rw[if_pos (by omega),if_neg h0]
   by_cases hk0:k=0
   ·subst hk0
    rw[if_pos rfl]
    have:=h (i-1) (by omega)
    rw[show i-1+1=i by omega] at this;unfold Cg;rw[lq];exact this
   ·rw[if_neg hk0]
    exact Cg.refl _
 ·rw[Qo fun i _=>by rw[if_neg (by omega),if_pos rfl]]
  rw[if_pos rfl];have e:det n (fun i k=>if i+1=0 then A 0 (k+1) else if k+1=0 then 0 else A (i+1) (k+1)-t (i+1-1)*A 0 (k+1))=det n fun i k=>A (i+1) (k+1)-t i*A 0 (k+1):=bR fun i k _ _=>by rw[if_neg (by omega),if_neg (by omega)];rfl
  rw[e];exact Cg.refl _
def mv (p:Nat)(A:Mx):Mx:=fun i k=>if i=0 then A p k else if i<=p then A (i-1) k else A i k
theorem Js:∀ {p:Nat} {A:Mx},p<n->det n (mv p A)=sg p*det n A
 | 0,A,h=>by
  rw[show sg 0=1 from rfl,ir];exact bR fun i k _ _=>by
   unfold mv;by_cases h0:i=0
   ·rw[if_pos h0,h0]
   ·rw[if_neg h0,if_neg (by omega)]
 | p+1,A,h=>by
  have ih:=Js (p:=p) (A:=fun i k=>A (tr p i) k) (by omega);rw[swap h] at ih;rw[Bk,qy,<- Int.mul_neg,<- ih];refine bR fun i k _ _=>?_
  unfold mv tr
  dsimp only
  by_cases h0:i=0
  ·rw[if_pos h0,if_pos h0,if_pos rfl]
  ·rw[if_neg h0,if_neg h0]
   by_cases h1:i<=p
   ·rw[if_pos (by omega),if_pos h1,if_neg (by omega),if_neg (by omega)]
   ·by_cases h2:i=p+1
    ·subst h2
     rw[if_pos (by omega),if_neg (by omega),if_neg (by omega),if_pos rfl];rfl
    ·rw[if_neg (by omega),if_neg h1,if_neg (by omega),if_neg h2]
end
def sN:Nat->(Nat->Nat)->Nat
 | 0,_=>0
 | n+1,f=>sN n f+f n
def pN:Nat->(Nat->Nat)->Nat
 | 0,_=>1
 | n+1,f=>f 0*pN n fun i=>f (i+1)
section
variable {n N p q i j k l:Nat}{A B:Mx}{f g:Nat->Nat}{c m:Int}
theorem Id:∀ {n:Nat},(∀ j,j<n->f j<=g j)->sN n f<=sN n g
 | 0,_=>af _
 | n+1,h=>r8 (Id fun j hj=>h j (by omega)) (h n (by omega))
theorem yS {c:Nat}:∀ {n:Nat},sN n (fun j=>f j*c)=sN n f*c
 | 0=>by show 0=0*c;omega
 | n+1=>by
  show sN n (fun j=>f j*c)+f n*c=(sN n f+f n)*c;rw[yS (n:=n),gt]
theorem Nf:∀ {n:Nat} {f g:Nat->Nat},(∀ j,j<n->f j<=g j)->pN n f<=pN n g
 | 0,_,_,_=>af _
 | n+1,f,g,h=>fj (h 0 (by omega)) (Nf fun j hj=>h (j+1) (by omega))
theorem Cc {f:Nat->Int}:∀ {n:Nat},(dB n f).natAbs<=sN n fun j=>(f j).natAbs
 | 0=>af _
 | n+1=>by
  have:=Cc (f:=f) (n:=n)
  have h2:=Int.natAbs_add_le (dB n f) (f n);show (dB n f+f n).natAbs<=sN n (fun j=>(f j).natAbs)+(f n).natAbs;omega
theorem Nj {f:Nat->Nat}{j:Nat}:∀ {n:Nat},sN n (fun k=>f (sk j k))<=sN (n+1) f
 | 0=>bi _
 | n+1=>by
  show sN n (fun k=>f (sk j k))+f (sk j n)<=sN (n+1) f+f (n+1);by_cases h:n<j
  ·have e:∀ m,m<=n+1->sN m (fun k=>f (sk j k))=sN m f:=fun m=>by
    induction m with
    | zero=>intro _;rfl
    | succ m ih =>
     intro hm;show sN m (fun k=>f (sk j k))+f (sk j m)=sN m f+f m;rw[ih (by omega),show sk j m=m by unfold sk;rw[if_pos (by omega)]]
   have:=e (n+1) (af _)
   have e2:sN (n+1) (fun k=>f (sk j k))=sN n (fun k=>f (sk j k))+f (sk j n):=rfl;omega
  ·have:=Nj (j:=j) (f:=f) (n:=n)
   rw[show sk j n=n+1 by unfold sk;rw[if_neg h]];omega
theorem Qd:(sg j).natAbs=1:=by unfold sg;split <;> rfl
theorem tW:∀ {n:Nat} {A:Mx},(det n A).natAbs<=pN n fun i=>sN n fun k=>(A i k).natAbs
 | 0,_=>af _
 | n+1,A=>by
  refine a7 Cc ?_;show _<=sN (n+1) (fun k=>(A 0 k).natAbs)*pN n fun i=>sN (n+1) fun k=>(A (i+1) k).natAbs
  rw[<- yS];refine Id fun j _=>?_
  rw[lz,lz,Qd,gf];exact ie _ (a7 tW (Nf fun i _=>Nj (f:=fun k=>(A (i+1) k).natAbs)))
def ent (M:List (List Int)):Mx:=fun i k=>(M.getD i []).getD k 0
theorem sI {α:Type}{M:List α}{d:α}(i:Nat):(M.eraseIdx p).getD i d=M.getD (if i<p then i else i+1) d:=by
 rw[ah,ah,jx];split <;> rfl
theorem Kx {M:List (List Int)}{u:List Int->List Int}(h:i<M.length):(M.map u).getD i []=u (M.getD i []):=by
 rw[ah,ah,aj,aa h];rfl
theorem elim {M:List (List Int)}{top:List Int}{back:Int}{t:List Int->Int}{low:List Int->List Int}(hp:p<n+1)(hM:M.length=n+1)(htop:∀ k,k<n+1->Cg m (top.getD k 0) ((M.getD p []).getD k 0))(hb:Cg m (top.getD 0 0*back) 1)
  (ht:∀ r∈M,Cg m (t r) (r.getD 0 0*back)) (hlow:∀ r∈M,∀ k,k<n->(low r).getD k 0=r.getD (k+1) 0-t r*top.getD (k+1) 0):Cg m (det (n+1) (ent M)) (sg p*(top.getD 0 0*det n (ent ((M.eraseIdx p).map low)))):=by
 have e1:det (n+1) (ent M)=sg p*det (n+1) (mv p (ent M)):=by
  rw[Js hp,<- dq,Rt,ir]
 have mem:∀ i,i<n->(M.eraseIdx p).getD i []∈M:=fun i hi=>by
  rw[sI];split
  ·rw[ah,aa (by omega)]
   exact b6 _
  ·rw[ah,aa (by omega)]
   exact b6 _
 have row:∀ i k,i<n->mv p (ent M) (i+1) k=((M.eraseIdx p).getD i []).getD k 0:=fun i k hi=>by
  unfold mv ent;rw[if_neg (by omega),sI];by_cases h:i<p
  ·rw[if_pos (by omega),if_pos h]
   rfl
  ·rw[if_neg (by omega),if_neg h]
 rw[e1];refine (Cg.refl _).mul ?_;refine (wB (B:=fun i k=>if i=0 then top.getD k 0 else mv p (ent M) i k) fun i k hi hk=>?_).trans ?_
 ·by_cases h0:i=0
  ·subst h0
   rw[if_pos rfl];exact (htop k hk).symm
  ·rw[if_neg h0]
   exact Cg.refl _
 ·refine (Jx (t:=fun i=>t ((M.eraseIdx p).getD i [])) fun i hi=>?_).trans ?_
  ·rw[if_neg (by omega),if_pos rfl,row i 0 hi]
   have h1:=ht _ (mem i hi);have h2:=(h1.mul (Cg.refl (top.getD 0 0))).trans (b:=((M.eraseIdx p).getD i []).getD 0 0*back*top.getD 0 0) (d:=((M.eraseIdx p).getD i []).getD 0 0*1) (by
    rw[dq,gq back];exact (Cg.refl _).mul hb)
   rw[k7] at h2;exact h2.symm
  ·rw[if_pos rfl]
   refine (Cg.refl _).mul ?_;rw[bR (B:=ent ((M.eraseIdx p).map low)) fun i k hi hk=>?_]
   ·exact Cg.refl _
   ·rw[if_neg (by omega),if_pos rfl,row i (k+1) hi]
    unfold ent;rw[Kx (by rw[g7];split <;> omega),hlow _ (mem i hi) k hk]
theorem Qt {M:List (List Int)}(h:∀ r∈M,m∣r.getD 0 0)(hM:M.length=n+1):Cg m (det (n+1) (ent M)) 0:=by
 rw[<- Ph (n:=n) (A:=fun i k=>if k=0 then 0 else ent M i k) fun i _=>if_pos rfl];refine wB fun i k hi hk=>?_
 by_cases hk0:k=0
 ·subst hk0
  rw[if_pos rfl];unfold Cg ent;rw[lq];refine h _ ?_;rw[ah,aa (by omega)];exact b6 _
 ·rw[if_neg hk0]
  exact Cg.refl _
theorem Lv:∀ {r:List Int} {n:Nat},r.length=n->(((r.map fun x=>if x<0 then -x else x).sum:Int))=((sN n fun k=>(r.getD k 0).natAbs:Nat):Int):=by
 intro r
 induction r with
 | nil=>intro n h;subst h;rfl
 | cons x r ih =>
  intro n h;subst h;have key:∀ (n:Nat) (f:Nat->Nat),sN (n+1) f=f 0+sN n fun k=>f (k+1):=fun n=>by
   induction n with
   | zero=>intro f;show 0+f 0=f 0+0;omega
   | succ n ih2 =>
    intro f;show sN (n+1) f+f (n+1)=f 0+(sN n (fun k=>f (k+1))+f (n+1));rw[ih2];omega
  rw[a0,dk,ih rfl,aw,key];show (if x<0 then -x else x)+_=(((x.natAbs+sN r.length fun k=>(r.getD k 0).natAbs:Nat)):Int);rw[oj]
  congr 1
  split <;> omega
end
end Dt
namespace Wd
def Qb (t:W)(n i:Nat):W:=(cu n).map fun k=>t.getD ((i+k) % t.length) 0
def rP (t:W)(n:Nat):List W:=(cu (t.length+1-n)).map (Qb t n)
theorem jX:∀ {xs ys:List W},xs.Perm ys->xs.Pairwise (fun a b=>¬ b<a)->ys.Pairwise (fun a b=>¬ b<a)->xs=ys:=by
 intro xs ys h h1 h2;refine mn ?_ h1 h2 h;intro a b _ _ z1 z2;exact iu a b z2 z1
end Wd
namespace Hg
variable {bg en:List Nat->List Nat}
inductive Rch (bg en:List Nat->List Nat)(ms:List (List Nat))(p:List Nat):List Nat->Prop
 | self:Rch bg en ms p p
 | fw {w:List Nat}:w∈ms->Rch bg en ms p (bg w)->Rch bg en ms p (en w)
 | bw {w:List Nat}:w∈ms->Rch bg en ms p (en w)->Rch bg en ms p (bg w)
def Cl (bg en:List Nat->List Nat)(ls:List (List Nat))(w:List Nat):Prop:=bg w∈ls↔en w∈ls
def Pj (ls:List (List Nat))(t:List Nat):List (List Nat):=if t∈ls then ls else ls++[t]
structure Pass (bg en:List Nat->List Nat)(ms:List (List Nat))(p:List Nat)(fs:List (List Nat))(i:Nat)(ls:List (List Nat)):Prop where
 nd:ls.Nodup
 pre:fs <+: ls
 rch:∀ z∈ls,Rch bg en ms p z
 cl:ls.length=fs.length->∀ w∈ms.take i,Cl bg en fs w
theorem vR {α:Type}[BEq α][LawfulBEq α]:∀ {ls ms:List α},ls.Nodup->(∀ z∈ls,z∈ms)->ls.length<=ms.length
 | [],_,_,_=>bi _
 | a::ls,ms,h,hs=>by
  rw[b9] at h;have ha:=hs a (am ..);have ih:=vR (ls:=ls) (ms:=ms.erase a) h.2 fun z hz=>(o0 (fun e:z=a=>h.1 (e▸hz))).mpr (hs z (ai _ hz))
  have:=mo ha
  have:=nu ha
  rw[aw];omega
end Hg
namespace Dt
def dD (N:Nat):Prop:=1<N∧∀ x,0<x->x<N->ig x N=1
section
variable {N F b d e n:Nat}
def pm (N:Nat):Nat->Nat->Nat->Nat
 | 0,_,_=>1 % N
 | f+1,b,e=>if e=0 then 1 % N else if e % 2=1 then b*pm N f (b*b % N) (e/2) % N else pm N f (b*b % N) (e/2)
theorem xU (N b e:Nat):(b*b % N) ^ e % N=b ^ (2*e) % N:=by
 rw[<- ra,jt,Nat.pow_two]
theorem Bj:∀ (f b e:Nat),e<2 ^ f->pm N f b e=b ^ e % N
 | 0,b,e,h=>by
  obtain rfl:e=0:=by simpa using h
  rfl
 | f+1,b,e,h=>by
  unfold pm;by_cases h0:e=0
  ·rw[if_pos h0,h0,Nat.pow_zero]
  ·rw[if_neg h0]
   have ih:=Bj f (b*b % N) (e/2) (by rw[jf] at h;omega);by_cases h1:e % 2=1
   ·rw[if_pos h1,ih,i9,rb,xU,<- i9,dw,<- jf]
    congr 2
    omega
   ·rw[if_neg h1,ih,xU]
    congr 2
    omega
theorem Mi {b d:Nat}(hd:1<d){x y:Nat}(hx:b ^ x % d=1)(hy:b ^ y % d=1):b ^ (y % x) % d=1:=by
 have e:b ^ y=(b ^ x) ^ (y/x)*b ^ (y % x):=by rw[<- jt,<- ja,om]
 rw[e,i9,ra,hx,Nat.one_pow,kj hd,gf,rb] at hy;exact hy
theorem Kb {b d:Nat}(hd:1<d):∀ (x y:Nat),b ^ x % d=1->b ^ y % d=1->b ^ (ig x y) % d=1:=fun x y=>by
 induction x,y using Nat.gcd.induction with
 | H0 y=>intro _ h;rw[Nat.gcd_zero_left];exact h
 | H1 x y hx ih =>
  intro h1 h2;rw[o6];exact ih (Mi hd h1 h2) h1
theorem oA (rs:List Nat)(hN:1<N)(hF:N<=F*F)(h1:b ^ F % N=1)(h2:∀ r∈rs,ig (b ^ (F/r) % N+(N-1)) N=1)(h3:∀ g,g∣F->g<F->∃ r∈rs,g∣F/r):dD N:=by
 have key:∀ d,d∣N->1<d->F<d:=fun d hdN hd=>by
  have hdF:b ^ F % d=1:=by
   have:=pq (b ^ F) hdN
   rw[h1,kj hd] at this;exact this.symm
  have no:∀ e,0<e->e<F->b ^ e % d≠1:=fun e he heF hc=>by
   have hg:=Kb hd e F hc hdF;have hgF:=i7 e F;have hge:ig e F<=e:=rg F he;obtain⟨r,hr,hgr⟩:=h3 _ hgF (by omega);obtain⟨q,hq⟩:=hgr;have hFr:b ^ (F/r) % d=1:=by rw[hq,jt,ra,hg,Nat.one_pow,kj hd]
   have hdd:d∣b ^ (F/r) % N+(N-1):=by
    have e1:b ^ (F/r) % N % d=1:=by rw[pq _ hdN];exact hFr
    refine ix ?_;have e2:(b ^ (F/r) % N+(N-1)) % d=(1+(N-1)) % d:=by rw[Nat.add_mod,e1,Nat.add_mod_mod]
    rw[e2,show 1+(N-1)=N by omega];exact Nat.mod_eq_zero_of_dvd hdN
   have:=Nat.dvd_gcd hdd hdN
   rw[h2 r hr] at this
   have:=tj (by omega) this
   omega
  have inj:((cu F).map fun i=>b ^ i % d).Nodup:=by
   refine fk.mpr (mq (fun {i j} hi hj hij he=>?_) nw);have hj:j<F:=de.mp hj;refine no (j-i) (by omega) (by omega) ?_;have a1:b ^ (F-i)*b ^ i % d=1:=by rw[<- ja,gv (by omega)];exact hdF
   have a2:b ^ (F-i)*b ^ j % d=b ^ (j-i) % d:=by
    rw[<- ja,show F-i+j=F+(j-i) by omega,ja,i9,hdF,gf,rb]
   rw[<- a2,i9,<- he,<- i9];exact a1
  have sub:∀ z∈(cu F).map (fun i=>b ^ i % d),z∈List.range' 1 (d-1):=fun z hz=>by
   obtain⟨i,hi,rfl⟩:=ar.mp hz;have hi:i<F:=de.mp hi;rw[List.mem_range'_1];have hlt:=kl (b ^ i) (show d>0 by omega);have hnz:b ^ i % d≠0:=fun z=>by
    have a1:b ^ (F-i)*b ^ i % d=1:=by rw[<- ja,gv (by omega)];exact hdF
    rw[i9,z,Nat.mul_zero,Nat.zero_mod] at a1;cases a1
   omega
  have:=Hg.vR inj sub
  rw[aR,gi,List.length_range'] at this;omega
 refine⟨hN,fun x h0 hx=>?_⟩;refine cc fun hg=>?_
 have hgN:=i7 x N;have hgx:ig x N<=x:=rg N h0;have hgp:0<ig x N:=Nat.gcd_pos_of_pos_left N h0;obtain⟨c,hc⟩:=hgN;have k1:=key _ (i7 x N) (by omega);have hc1:1<c:=by
  rcases fm 1 c with z | z
  ·exact z
  ·have:ig x N*c<=ig x N*1:=ie _ z
   omega
 have k2:=key c ⟨_,by rw[dw];exact hc⟩ hc1
 have:=Nat.mul_lt_mul'' k1 k2
 omega
theorem Hm {k g:Nat}(h:g∣2 ^ (k+1))(hl:g<2 ^ (k+1)):g∣2 ^ (k+1)/2:=by
 obtain⟨c,hc⟩:=h;have hc2:c % 2=0:=by
  refine cc fun z=>?_
  have hco:Nat.Coprime c 2:=by
   show ig c 2=1;rw[Nat.gcd_comm,o6,show c % 2=1 by omega];rfl
  have h1:=Nat.Coprime.pow_right (k+1) hco;have h2:c∣2 ^ (k+1):=⟨g,by rw[hc,dw]⟩;have h3:=Nat.Coprime.eq_one_of_dvd h1 h2;rw[h3,rc] at hc;omega
 refine⟨c/2,?_⟩;rw[hc]
 have:c=2*(c/2):=by omega
 rw[Nat.mul_div_assoc _ (ix hc2)]
theorem rK (h k:Nat)(hh:h<2 ^ (k+1))(h0:0<h)(hp:pm (h*2 ^ (k+1)+1) (k+1+k+1) 3 (h*2 ^ k)=h*2 ^ (k+1)):dD (h*2 ^ (k+1)+1):=by
 have hpos:0<2 ^ k:=o7 (by decide);have hs:2 ^ (k+1)=2*2 ^ k:=by rw[jf,dw]
 have hN:1<h*2 ^ (k+1)+1:=by have:=Nat.mul_pos h0 (o7 (n:=k+1) (show 0<2 by decide));omega
 have hlt:h*2 ^ k<2 ^ (k+1+k+1):=by
  have:=Nat.mul_lt_mul_of_lt_of_le hh (af (2 ^ k)) hpos
  rw[<- ja] at this;exact qj this (o8 (by decide) (by omega))
 rw[Bj _ _ _ hlt] at hp;refine oA (F:=2 ^ (k+1)) (b:=3 ^ h) [2] hN ?_ ?_ ?_ fun g hg hl=>⟨2,by simp,Hm hg hl⟩
 ·have:=gg (2 ^ (k+1)) (show h+1<=2 ^ (k+1) from hh)
  rw[gt] at this
  have:=o7 (n:=k+1) (show 0<2 by decide)
  omega
 ·have e3:3 ^ (h*2 ^ (k+1))=3 ^ (h*2 ^ k)*3 ^ (h*2 ^ k):=by
   rw[hs,show h*(2*2 ^ k)=h*2 ^ k*2 by rw[dw 2,ib],jt,Nat.pow_two]
  rw[<- jt,e3,i9,hp];have e:∀ x:Nat,0<x->x*x % (x+1)=1:=fun x hx=>by
   rw[show x*x=1+(x+1)*(x-1) by
    have:x*x=(x-1+1)*x:=by rw[gv hx]
    have h2:(x+1)*(x-1)=x*(x-1)+(x-1):=by rw[gt,gf]
    have h3:x*x=x*(x-1)+x:=by
     have:x*x=x*(x-1+1):=by rw[gv hx]
     rw[this,Nat.mul_add,rc]
    omega,Nat.add_mul_mod_self_left,kj (by omega)]
  exact e _ (Nat.mul_pos h0 (o7 (by decide)))
 ·intro r hr
  obtain rfl:=aq.mp hr;rw[<- jt,hs,m6 _ (by decide),<- hs,hp,ly];have e:∀ x:Nat,x % 2=0->ig (x+x) (x+1)=1:=fun x hx=>by
   have:ig (x+x) (x+1)∣2:=by
    have a1:=Nat.gcd_dvd_left (x+x) (x+1);have a2:=i7 (x+x) (x+1);have a3:=Nat.dvd_sub (Nat.dvd_mul_left_of_dvd a2 2) a1;rw[show 2*(x+1)-(x+x)=2 by omega] at a3;exact a3
   have hle:=tj (by decide) this;have hpos:=Nat.gcd_pos_of_pos_right (x+x) (show 0<x+1 by omega);rcases fm (ig (x+x) (x+1)) 2 with z | z
   ·omega
   ·have e2:ig (x+x) (x+1)=2:=by omega
    have a2:=i7 (x+x) (x+1);rw[e2] at a2;omega
  refine e _ ?_;rw[hs,<- ib,dw h 2,ib];exact Nat.mul_mod_right ..
theorem Ry:dD (133*2 ^ 192+1):=rK 133 191 (by decide +kernel) (by decide) (by decide +kernel)
def zH (N:Nat):Bool:=decide (1<N)&&(cu N).all fun x=>x==0||ig x N==1
theorem Eh (h:zH N=true):dD N:=by
 unfold zH at h;rw[dg,decide_eq_true_iff,dh] at h;refine⟨h.1,fun x h0 hx=>?_⟩
 have:=h.2 x (de.mpr hx)
 rw[iy,beq_iff_eq,beq_iff_eq] at this;omega
theorem dD.cop {r c:Nat}(h:dD r)(hc:¬ r∣c):Nat.Coprime c r:=by
 show ig c r=1;rw[Nat.gcd_comm,o6];have h1:=h.1;exact h.2 (c % r) (l0 fun z=>hc (ix z)) (kl _ (by omega))
theorem xO:∀ (rs:List Nat),(∀ r∈rs,dD r)->∀ c,c∣rs.prod->c≠1->∃ r∈rs,r∣c
 | [],_,c,h,h1=>absurd (Nat.eq_one_of_dvd_one h) h1
 | r::rs,hp,c,h,h1=>by
  by_cases hr:r∣c
  ·exact⟨r,by simp,hr⟩
  ·rw[List.prod_cons] at h
   obtain⟨r',h2,h3⟩:=xO rs (fun x hx=>hp x (ai _ hx)) c (Nat.Coprime.dvd_of_dvd_mul_left ((hp r (by simp)).cop hr) h) h1;exact⟨r',ai _ h2,h3⟩
theorem Td:dD 2305843009213693951:=by
 have ps:∀ r∈[61,151,331,1321],dD r:=fun r hr=>Eh (by
  have:∀ r∈[61,151,331,1321],zH r=true:=by decide +kernel
  exact this r hr)
 refine oA (F:=4027518961) (b:=429339995019680672) [61,151,331,1321] (by decide) (by decide) ?_ ?_ fun g hg hl=>?_
 ·rw[<- Bj 32 _ _ (by decide)]
  decide +kernel
 ·intro r hr
  have key:∀ r∈[61,151,331,1321],ig (pm 2305843009213693951 32 429339995019680672 (4027518961/r)+(2305843009213693951-1)) 2305843009213693951=1:=by decide +kernel
  rw[<- Bj 32 _ _ (d7 (rh _ _) (by decide))];exact key r hr
 ·obtain⟨c,hc⟩:=hg
  have hF:([61,151,331,1321]:List Nat).prod=4027518961:=by decide
  obtain⟨r,hr,q,rfl⟩:=xO _ ps c (by rw[hF];exact⟨g,by rw[hc,dw]⟩) fun z=>by rw[z,rc] at hc;omega
  have h0:=(ps r hr).1;refine⟨r,hr,q,?_⟩;rw[hc,show g*(r*q)=r*(g*q) by rw[<- ib,dw g r,ib],m6 _ (by omega)]
theorem Sc:dD (211*2 ^ 192+1):=rK 211 191 (by decide +kernel) (by decide) (by decide +kernel)
theorem Ra:dD (598*2 ^ 192+1):=rK 598 191 (by decide +kernel) (by decide) (by decide +kernel)
theorem Sb:dD (652*2 ^ 192+1):=rK 652 191 (by decide +kernel) (by decide) (by decide +kernel)
theorem Qw:dD (721*2 ^ 192+1):=rK 721 191 (by decide +kernel) (by decide) (by decide +kernel)
theorem Qx:dD (850*2 ^ 192+1):=rK 850 191 (by decide +kernel) (by decide) (by decide +kernel)
theorem Pc:dD (1282*2 ^ 192+1):=rK 1282 191 (by decide +kernel) (by decide) (by decide +kernel)
structure Euc (pr:Nat)(num:Int)(last rest:Nat)(lt t:Int):Prop where
 pos:1<=rest
 lp:1<=last
 cop:ig rest last=1
 ct:Cg pr (t*num) rest
 cl:Cg pr (lt*num) last
 bd:t.natAbs*last+lt.natAbs*rest<=pr
theorem Euc.init {pr:Nat}{num:Int}{r:Nat}(h:dD pr)(hr:num % pr=r)(h0:r≠0):Euc pr num pr r 0 1:=by
 have h1:=h.1;have hlt:(r:Int)<pr:=by rw[<- hr];exact ck _ (by omega)
 refine⟨by omega,by omega,h.2 r (by omega) (by omega),?_,?_,by simp⟩
 ·rw[ir,<- hr]
  exact (nH num).symm
 ·rw[nr]
  unfold Cg;rw[ln];exact oz.mpr (Int.dvd_refl _)
theorem Euc.step {pr:Nat}{num:Int}{last rest:Nat}{lt t:Int}(h:Euc pr num last rest lt t)(h1:rest≠1):Euc pr num rest (last % rest) t (lt-(last/rest:Nat)*t):=by
 have hp:=h.pos;have hd:=om last rest;have hd2:((last:Nat):Int)=rest*(last/rest:Nat)+(last % rest:Nat):=by exact_mod_cast hd.symm
 refine⟨?_,hp,?_,?_,h.ct,?_⟩
 ·refine l0 fun z=>h1 ?_
  have:=h.cop
  rw[Nat.gcd_eq_left (ix z)] at this;exact this
 ·rw[<- o6]
  exact h.cop
 ·have e:(lt-(last/rest:Nat)*t)*num=lt*num-(last/rest:Nat)*(t*num):=by rw[mi,dq]
  rw[e,show ((last % rest:Nat):Int)=(last:Int)-(last/rest:Nat)*(rest:Int) by rw[hd2,gq];omega];exact h.cl.sub ((Cg.refl _).mul h.ct)
 ·have hb:=h.bd
  have a1:(lt-(last/rest:Nat)*t).natAbs<=lt.natAbs+(last/rest)*t.natAbs:=by
   have:=qk lt ((last/rest:Nat)*t)
   rw[lz,e9] at this;exact this
  have a2:=gg rest a1;rw[gt] at a2;have a3:t.natAbs*last=(last/rest)*t.natAbs*rest+t.natAbs*(last % rest):=by
   conv=>lhs;rw[<- hd,Nat.mul_add,<- ib,dw t.natAbs rest,ib,dw rest]
   rw[dw t.natAbs]
  omega
theorem Euc.tle {pr:Nat}{num:Int}{last rest:Nat}{lt t:Int}(h:Euc pr num last rest lt t):t.natAbs<=pr∧lt.natAbs<=pr:=by
 have hb:=h.bd;have h1:=ie t.natAbs h.lp;have h2:=ie lt.natAbs h.pos;omega
theorem Euc.fin {pr:Nat}{num:Int}{last rest:Nat}{lt t:Int}(h:Euc pr num last rest lt t)(h1:rest=1):Cg pr (t % pr*num) 1:=by
 have:=h.ct
 rw[h1] at this;exact ((nH t).mul (Cg.refl num)).trans this
theorem crt {M1 pr:Nat}{D res r2 inv:Int}(hM:0<M1)(hp:0<pr)(h1:Cg M1 res D)(h2:Cg pr r2 D)(hi:Cg pr (inv*M1) 1)(h0:0<=res∧res<M1):Cg (M1*pr:Nat) (res+(r2-res)*inv % pr*M1) D∧0<=res+(r2-res)*inv % pr*M1∧res+(r2-res)*inv % pr*M1<(M1*pr:Nat):=by
 have e0:=db ((r2-res)*inv) (show (pr:Int)≠0 by omega);have e1:=ck ((r2-res)*inv) (show (0:Int)<pr by omega);have hc:=nH (m:=pr) ((r2-res)*inv);generalize (r2-res)*inv % pr=q at e0 e1 hc;refine⟨?_,?_,?_⟩
 ·have a1:Cg M1 (res+q*M1) D:=by
   have:Cg M1 (q*M1) 0:=by
    unfold Cg;rw[lq];exact Int.dvd_mul_left ..
   have:=h1.add this
   rwa [qh] at this
  have a2:Cg pr (res+q*M1) D:=by
   have b1:Cg pr (q*M1) (r2-res):=by
    refine (hc.mul (Cg.refl (M1:Int))).trans ?_;rw[dq]
    have:=(Cg.refl (m:=pr) (r2-res)).mul hi
    rwa [k7] at this
   have:=(Cg.refl (m:=pr) res).add b1
   rw[show res+(r2-res)=r2 by omega] at this;exact this.trans h2
  unfold Cg at a1 a2 hi ⊢;obtain⟨x,hx⟩:=a1;rw[hx] at a2 ⊢;have a3:(pr:Int)∣x:=by
   have c1:(pr:Int)∣inv*(M1*x):=mm a2;have c2:(pr:Int)∣(inv*M1-1)*x:=m4 hi
   have:=Int.dvd_sub c1 c2
   rw[show inv*(M1*x)-(inv*M1-1)*x=x by rw[mi,dq];omega] at this;exact this
  obtain⟨y,rfl⟩:=a3;refine⟨y,?_⟩;rw[<- dq,iz]
 ·have:=Int.mul_nonneg e0 (show (0:Int)<=M1 by omega)
  omega
 ·have a:=km (show q<=(pr:Int)-1 by omega) (show (0:Int)<=M1 by omega)
  rw[mi,ir] at a;rw[iz,gq (M1:Int)];omega
theorem Ev {M:Nat}{D res bd:Int}(hm:2*bd<M)(hD : -bd<=D∧D<=bd)(h:Cg M res D)(h0:0<=res∧res<M):(if bd<res then res-M else res)=D:=by
 obtain⟨k,hk⟩:=h;have k0:k=0∨k=1:=by
  rcases Int.lt_or_le k 0 with z | z
  ·have:=k9 (show k<=-1 by omega) (show (0:Int)<=M by omega)
   omega
  ·rcases Int.lt_or_le 1 k with y | y
   ·have:=k9 (show 2<=k by omega) (show (0:Int)<=M by omega)
    omega
   ·omega
 rcases k0 with rfl | rfl
 ·rw[gb] at hk
  rw[if_neg (by omega)];omega
 ·rw[k7] at hk
  rw[if_pos (by omega)];omega
end
theorem Cj {pr p:Nat}{rest top0 inv dN dM D:Int}(hr:0<rest∧rest<pr)(hi:Cg pr (inv*top0) 1)(hE:Cg pr dN (sg p*(top0*dM)))(hD:Cg pr (rest*dN) D) :
  (0<(if p % 2=1 then (pr:Int)-rest*top0 % pr else rest*top0 % pr)∧(if p % 2=1 then (pr:Int)-rest*top0 % pr else rest*top0 % pr)<pr)∧Cg pr ((if p % 2=1 then (pr:Int)-rest*top0 % pr else rest*top0 % pr)*dM) D:=by
 have h0:=db (rest*top0) (show (pr:Int)≠0 by omega);have h1:=ck (rest*top0) (show (0:Int)<pr by omega);have hc:=nH (m:=pr) (rest*top0);have hnz:rest*top0 % pr≠0:=fun z=>by
  rw[z] at hc;have a1:=(hc.mul (Cg.refl (m:=pr) inv));rw[nr,dq,gq top0] at a1;have a2:=(Cg.refl (m:=pr) rest).mul hi;rw[k7] at a2;have a3:=a1.trans a2;unfold Cg at a3;rw[ln] at a3
  have:=Int.le_of_dvd hr.1 (oz.mp a3)
  omega
 generalize rest*top0 % pr=x at h0 h1 hc hnz;have key:Cg pr (x*dM) (rest*(top0*dM)):=by
  rw[<- dq];exact hc.mul (Cg.refl _)
 have hE2:=((Cg.refl (m:=pr) rest).mul hE).symm.trans hD;by_cases hp:p % 2=1
 ·rw[if_pos hp]
  have hs:sg p = -1:=by unfold sg;rw[if_neg (by omega)]
  rw[hs] at hE2;refine⟨⟨by omega,by omega⟩,?_⟩;have a1:Cg pr (((pr:Int)-x)*dM) (-(x*dM)):=by
   unfold Cg;rw[mi,show (pr:Int)*dM-x*dM - -(x*dM)=pr*dM by omega];exact qi ..
  refine a1.trans (key.neg.trans ?_);rw[show -(rest*(top0*dM))=rest*(-1*(top0*dM)) by rw[qy,ir,Int.mul_neg]];exact hE2
 ·rw[if_neg hp]
  have hs:sg p=1:=by unfold sg;rw[if_pos (by omega)]
  rw[hs,ir] at hE2;exact⟨⟨by omega,h1⟩,key.trans hE2⟩
def pL:List Nat->Nat
 | []=>1
 | x::l=>x*pL l
theorem Bv (x:Nat):∀ l:List Nat,pL (l++[x])=pL l*x
 | []=>by show x*1=1*x;omega
 | y::l=>by
  show y*pL (l++[x])=y*pL l*x;rw[Bv x l,ib]
theorem Hx {R:Nat}:∀ {l:List Nat},(∀ x∈l,x<=R)->pL l<=R ^ l.length
 | [],_=>af _
 | y::l,h=>by
  show y*pL l<=R ^ (l.length+1);rw[jf,dw];exact fj (Hx fun x hx=>h x (ai _ hx)) (h y (am ..))
def rs (n:Nat)(r:List Int):Nat:=sN n fun k=>(r.getD k 0).natAbs
theorem Ng (n:Nat):∀ M:List (List Int),pN M.length (fun i=>sN n fun k=>(ent M i k).natAbs)=pL (M.map (rs n))
 | []=>rfl
 | r::M=>by
  show (sN n fun k=>(ent (r::M) 0 k).natAbs)*pN M.length (fun i=>sN n fun k=>(ent (r::M) (i+1) k).natAbs)=rs n r*pL (M.map (rs n));rw[<- Ng n M];rfl
theorem Fe {f:Nat->Nat}:∀ {n k:Nat},k<n->f k<=sN n f
 | n+1,k,h=>by
  show f k<=sN n f+f n;rcases fm k n with z | z
  ·have:=Fe (f:=f) z
   omega
  ·rw[show k=n by omega]
   omega
theorem Pq {n:Nat}{r:List Int}(hl:r.length=n){x:Int}(hx:x∈r):x.natAbs<=rs n r:=by
 obtain⟨k,hk⟩:=fb hx;have hkl:=(al.mp hk).1
 have:=Fe (f:=fun k=>(r.getD k 0).natAbs) (n:=n) (k:=k) (by omega)
 rw[ah,hk] at this;exact this
theorem Pl {M:List (List Int)}{n:Nat}(h:M.length=n):(det n (ent M)).natAbs<=pL (M.map (rs n)):=by
 rw[<- Ng,h];exact tW
def kn:List Nat:=[133,211,598,652,721,850,1282]
def pr (j:Nat):Nat:=kn.getD j 0*2 ^ 192+1
def md:Nat->Nat
 | 0=>2305843009213693951
 | j+1=>md j*pr j
theorem Hn:∀ {j:Nat},j<7->dD (pr j)
 | 0,_=>Ry
 | 1,_=>Sc
 | 2,_=>Ra
 | 3,_=>Sb
 | 4,_=>Qw
 | 5,_=>Qx
 | 6,_=>Pc
 | j+7,h=>by omega
theorem Rg:∀ j,j<7->pr j<2 ^ 250∧md j % pr j≠0∧md j<2 ^ 1600∧md (j+1)<2 ^ 1800:=by decide +kernel
section
variable {n m p q i j k l:Nat}{A B T U:Mx}{f g:Nat->Int}{c:Nat->Int}
theorem wO (h:i<n):det n (bY A i fun _=>0)=0:=by
 have e:=mC (c:=1) (A:=A) (u:=fun _=>0) (v:=fun _=>0) h;rw[show (fun k:Nat=>(0:Int)+1*0)=fun _=>0 from rfl] at e;omega
def pI:Nat->(Nat->Int)->Int
 | 0,_=>1
 | n+1,f=>pI n f*f n
theorem xB:∀ {n:Nat} {f:Nat->Int},pI (n+1) f=f 0*pI n fun i=>f (i+1)
 | 0,f=>by show 1*f 0=f 0*1;omega
 | n+1,f=>by
  show pI (n+1) f*f (n+1)=f 0*(pI n (fun i=>f (i+1))*f (n+1));rw[xB (n:=n),dq]
theorem Fj:∀ {n:Nat} {f:Nat->Int},(∀ i,i<n->f i=1)->pI n f=1
 | 0,_,_=>rfl
 | n+1,f,h=>by
  show pI n f*f n=1;rw[Fj (n:=n) fun i hi=>h i (by omega),h n (by omega)];rfl
theorem sY:∀ {n:Nat} {U:Mx},(∀ i k,k<i->i<n->U i k=0)->det n U=pI n fun i=>U i i
 | 0,_,_=>rfl
 | n+1,U,h=>by
  rw[Qo fun i hi=>h (i+1) 0 (by omega) (by omega),sY (n:=n) fun i k h1 h2=>h (i+1) (k+1) (by omega) (by omega),xB]
end
section
variable {n i j k l m:Nat}{A B:Mx}{f:Nat->Nat}{c:Int}
theorem Ic (hi:i<n)(hj:j<n)(hij:i≠j):det n (bY A i fun k=>A i k+c*A j k)=det n A:=by
 have e:=mC (c:=c) (A:=A) (u:=A i) (v:=A j) hi;have z:det n (bY A i (A j))=0:=by
  rcases fm i j with h | h
  ·refine pG (j-(i+1)) (i:=i) (A:=bY A i (A j)) (by omega) fun k _=>?_
   rw[kL,show i+1+(j-(i+1))=j by omega,jB (by omega)]
  ·refine pG (i-(j+1)) (i:=j) (A:=bY A i (A j)) (by omega) fun k _=>?_
   rw[jB (by omega),show j+1+(i-(j+1))=i by omega,kL]
 rw[z,iB (A i) fun _=>rfl,gb,qh] at e;exact e
def un (i k:Nat):Int:=if k=i then 1 else 0
def chM (n:Nat)(f:Nat->Nat):Mx:=fun i k=>un i k-if f i<n then un (f i) k else 0
def chS (n:Nat)(f:Nat->Nat)(S:Nat->Bool):Mx:=fun i k=>if S i=true then un i k else chM n f i k
theorem nL {S S':Nat->Bool}{a:Nat}(h:S a=S' a):chS n f S a k=chS n f S' a k:=by
 unfold chS;rw[h]
theorem Aw {S:Nat->Bool}(hi:i<n)(hS:S i=false)(hf:f i<n->S (f i)=true):det n (chS n f fun a=>S a||a==i)=det n (chS n f S):=by
 by_cases h:f i<n
 ·have hne:i≠f i:=fun z=>by have:=hf h;rw[<- z,hS] at this;cases this
  rw[<- Ic (A:=chS n f S) (i:=i) (j:=f i) (c:=1) hi h hne];refine bR fun a k _ _=>?_
  unfold bY
  try dsimp only
  by_cases ha:a=i
  ·subst ha
   rw[if_pos rfl];unfold chS
   try dsimp only
   rw[if_pos (by rw[beq_self_eq_true,tz]),if_neg (by rw[hS];exact ak),if_pos (hf h)];unfold chM;rw[if_pos h];omega
  ·rw[if_neg ha]
   exact nL (by rw[beq_false_of_ne ha,gs])
 ·refine bR fun a k _ _=>?_
  by_cases ha:a=i
  ·subst ha
   unfold chS
   try dsimp only
   rw[if_pos (by rw[beq_self_eq_true,tz]),if_neg (by rw[hS];exact ak)];unfold chM;rw[if_neg h,lq]
  ·exact nL (by rw[beq_false_of_ne ha,gs])
theorem Oy:∀ n:Nat,det n un=1
 | n=>by
  rw[sY (n:=n) fun i k h1 _=>by unfold un;rw[if_neg (by omega)]];exact Fj fun i _=>by unfold un;rw[if_pos rfl]
theorem Nx {d:Nat->Nat}(hd:∀ i,i<n->f i<n->d (f i)<d i):det n (chM n f)=1:=by
 have key:∀ m l,l<=n->det n (chS n f fun a=>decide (d a<m)||(decide (d a=m)&&decide (a<l)))=det n (chM n f):=fun m=>by
  induction m with
  | zero =>
   intro l
   induction l with
   | zero =>
    intro _;refine bR fun a k _ _=>?_
    unfold chS
    try dsimp only
    rw[if_neg (by simp)]
   | succ l ih =>
    intro hl;rw[<- ih (by omega)];by_cases h:d l=0
    ·have:=Aw (n:=n) (f:=f) (i:=l) (S:=fun a=>decide (d a<0)||(decide (d a=0)&&decide (a<l))) (by omega) (by simp) (fun hf=>by have:=hd l (by omega) hf;omega)
     rw[<- this]
     congr 2
     funext a
     by_cases ha:a=l
     ·subst ha
      simp[h]
     ·have e:decide (a<l+1)=decide (a<l):=by rw[decide_eq_decide];omega
      rw[e,beq_false_of_ne ha,gs]
    ·congr 2
     funext a
     by_cases ha:a=l
     ·subst ha
      simp[h]
     ·have e:decide (a<l+1)=decide (a<l):=by rw[decide_eq_decide];omega
      rw[e]
  | succ m ihm =>
   intro l
   induction l with
   | zero =>
    intro _;rw[<- ihm n (af n)];refine bR fun a k ha _=>?_
    have e:(decide (d a<m+1)||(decide (d a=m+1)&&decide (a<0)))=(decide (d a<m)||(decide (d a=m)&&decide (a<n))):=by
     rw[decide_eq_false (show ¬ a<0 by omega),decide_eq_true ha,ij,gs,Bool.and_true,ci,iy,decide_eq_true_iff,decide_eq_true_iff,decide_eq_true_iff];omega
    exact nL e
   | succ l ih =>
    intro hl;rw[<- ih (by omega)];by_cases h:d l=m+1
    ·have:=Aw (n:=n) (f:=f) (i:=l) (S:=fun a=>decide (d a<m+1)||(decide (d a=m+1)&&decide (a<l))) (by omega) (by simp[h]) (fun hf=>by
      have:=hd l (by omega) hf
      have:d (f l)<m+1:=by omega
      simp[this])
     rw[<- this]
     congr 2
     funext a
     by_cases ha:a=l
     ·subst ha
      simp[h]
     ·have e:decide (a<l+1)=decide (a<l):=by rw[decide_eq_decide];omega
      rw[e,beq_false_of_ne ha,gs]
    ·congr 2
     funext a
     by_cases ha:a=l
     ·subst ha
      simp[h]
     ·have e:decide (a<l+1)=decide (a<l):=by rw[decide_eq_decide];omega
      rw[e]
 obtain⟨m,hm⟩:∃ m,∀ i,i<n->d i<m:=by
  have:∀ N,∃ m,∀ i,i<N->d i<m:=fun N=>by
   induction N with
   | zero=>exact⟨0,fun i h=>by omega⟩
   | succ N ih =>
    obtain⟨m,hm⟩:=ih;refine⟨m+d N+1,fun i h=>?_⟩;rcases fm i N with z | z
    ·have:=hm i z
     omega
    ·rw[show i=N by omega]
     omega
  exact this n
 rw[<- key m 0 (bi _),<- Oy n];refine bR fun a k ha _=>?_
 unfold chS
 try dsimp only
 rw[if_pos (by simp[hm a ha])]
def itf (f:Nat->Nat):Nat->Nat->Nat
 | 0,i=>i
 | k+1,i=>f (itf f k i)
theorem Hv (hi:i<n)(hl:∀ k,k<=m->itf f (k+1) i<n)(hr:itf f (m+1) i=i)(hne:∀ k,0<k->k<=m->itf f k i≠i):det n (chM n f)=0:=by
 have key:∀ k,k<=m->det n (bY (chM n f) i fun l=>un i l-un (itf f (k+1) i) l)=det n (chM n f):=fun k=>by
  induction k with
  | zero =>
   intro _;refine iB _ fun l=>?_
   unfold chM
   have:=hl 0 (bi _)
   rw[if_pos (show f i<n from this)];rfl
  | succ k ih =>
   intro hk;rw[<- ih (by omega)];have h1:=hl k (by omega);have h2:=hl (k+1) hk;have h3:=hne (k+1) (by omega) hk;rw[<- Ic (A:=bY (chM n f) i fun l=>un i l-un (itf f (k+1) i) l) (i:=i) (j:=itf f (k+1) i) (c:=1) hi h1 (fun z=>h3 z.symm)];refine bR fun a l _ _=>?_
   unfold bY
   try dsimp only
   by_cases ha:a=i
   ·subst ha
    rw[if_pos rfl,if_pos rfl,if_pos rfl,if_neg h3];unfold chM;rw[if_pos (show f (itf f (k+1) a)<n from h2)];show un a l-un (f (itf f (k+1) a)) l=_;omega
   ·rw[if_neg ha,if_neg ha,if_neg ha]
 rw[<- key m (af _),hr,show (fun l=>un i l-un i l)=fun _=>0 by funext l;omega];exact wO hi
end
def rP (n i w:Nat):Nat->Int:=fun k=>un i k-if w<n then un w k else 0
def chA (n:Nat)(Ws:Nat->List Nat)(c:List Nat):Mx:=fun i k=>match c[i]? with
 | some w=>rP n i w k
 | none=>((Ws i).map fun w=>rP n i w k).sum
def Co (Ws:Nat->List Nat):Nat->List (List Nat)
 | 0=>[[]]
 | m+1=>(Co Ws m).flatMap fun c=>(Ws m).map fun w=>c++[w]
section
variable {n m i:Nat}{A:Mx}{Ws:Nat->List Nat}{c:List Nat}
theorem qR:∀ {m:Nat} {c:List Nat},c∈Co Ws m->c.length=m
 | 0,c,h=>by rw[aq.mp h];rfl
 | m+1,c,h=>by
  obtain⟨c',h1,h2⟩:=ik.mp h;obtain⟨w,_,rfl⟩:=ar.mp h2;rw[ag,qR h1];rfl
theorem wZ {g:Nat->Nat->Int}(hi:i<n):∀ l:List Nat,det n (bY A i fun k=>(l.map fun w=>g w k).sum)=(l.map fun w=>det n (bY A i (g w))).sum
 | []=>wO hi
 | w::l=>by
  have e:=vZ (A:=A) (u:=g w) (v:=fun k=>(l.map fun w=>g w k).sum) hi;rw[a0,dk,<- wZ hi l,<- e];rfl
theorem Fr (hm:c.length=m)(h:m<n):det n (chA n Ws c)=((Ws m).map fun w=>det n (chA n Ws (c++[w]))).sum:=by
 have e1:det n (chA n Ws c)=det n (bY (chA n Ws c) m fun k=>((Ws m).map fun w=>rP n m w k).sum):=(iB _ fun k=>by
  show _=match c[m]? with
   | some w=>rP n m w k
   | none=>((Ws m).map fun w=>rP n m w k).sum
  rw[cp (by omega)]).symm
 rw[e1,wZ h]
 congr 1
 refine bb fun w _=>bR fun a k _ _=>?_
 unfold bY chA;by_cases ha:a=m
 ·subst ha
  rw[if_pos rfl,fg (by omega),hm,ql];rfl
 ·rw[if_neg ha]
  rcases fm a m with z | z
  ·rw[gy (by omega)]
  ·rw[cp (l:=c) (by omega),cp (by rw[ag,da];omega)]
theorem Cf:∀ {m:Nat},m<=n->det n (chA n Ws [])=((Co Ws m).map fun c=>det n (chA n Ws c)).sum
 | 0,_=>by
  show det n (chA n Ws [])=det n (chA n Ws [])+0;omega
 | m+1,h=>by
  rw[Cf (m:=m) (by omega)];have key:∀ l:List (List Nat),(∀ c∈l,c.length=m)->(l.map fun c=>det n (chA n Ws c)).sum=((l.flatMap fun c=>(Ws m).map fun w=>c++[w]).map fun c=>det n (chA n Ws c)).sum:=fun l=>by
   induction l with
   | nil=>intro _;rfl
   | cons c l ih =>
    intro hl;rw[a0,dk,ca,ax,List.sum_append,ih fun c hc=>hl c (ai _ hc),Fr (hl c (am ..)) (by omega),bf];rfl
  exact key _ fun c hc=>qR hc
def goF (n:Nat)(c:List Nat)(i:Nat):Nat:=if i<n then c.getD i n else i
def goN (n:Nat)(c:List Nat):Nat->Nat->Nat
 | 0,i=>i
 | k+1,i=>goF n c (goN n c k i)
def oE (n:Nat)(c:List Nat):Prop:=∀ i,i<n->¬ goN n c n i<n
theorem Jy (hc:c.length=n):det n (chA n Ws c)=det n (chM n fun i=>c.getD i n):=bR fun a k ha _=>by
 unfold chA;rw[aa (show a<c.length by omega)];show rP n a c[a] k=rP n a (c.getD a n) k;rw[show c.getD a n=c[a] by rw[ah,aa (show a<c.length by omega)];rfl]
theorem Ar {k:Nat}(h:¬ i<n):goN n c k i=i:=by
 induction k with
 | zero=>rfl
 | succ k ih =>
  show goF n c (goN n c k i)=i;rw[ih];unfold goF;rw[if_neg h]
theorem kP {k:Nat}:∀ l:Nat,goN n c (l+k) i=goN n c l (goN n c k i)
 | 0=>by rw[jy];rfl
 | l+1=>by
  rw[show l+1+k=(l+k)+1 by omega];show goF n c (goN n c (l+k) i)=goF n c (goN n c l (goN n c k i));rw[kP l]
theorem Cs {k:Nat}:goN n c (k+1) i=goN n c k (goF n c i):=by
 rw[show k+1=k+1 from rfl,kP k];rfl
theorem Di (h:oE n c):det n (chM n fun i=>c.getD i n)=1:=by
 have ex:∀ i,∃ k,¬ goN n c k i<n:=fun i=>by
  by_cases hi:i<n
  ·exact⟨n,h i hi⟩
  ·exact⟨0,hi⟩
 have lH:∀ i,∃ k,¬ goN n c k i<n∧∀ j,j<k->goN n c j i<n:=fun i=>by
  obtain⟨k,hk⟩:=ex i
  induction k with
  | zero=>exact⟨0,hk,fun j hj=>by omega⟩
  | succ k ih =>
   by_cases h2:goN n c k i<n
   ·refine⟨k+1,hk,fun j hj=>?_⟩
    refine cc fun z=>?_
    have:goN n c (k-j+j) i=goN n c j i:=by rw[kP];exact Ar z
    rw[show k-j+j=k by omega] at this;rw[this] at h2;exact z h2
   ·exact ih h2
 refine Nx (d:=fun i=>il (lH i)) fun i hi hf=>?_
 obtain⟨a1,a2⟩:=i6 (lH i);obtain⟨b1,b2⟩:=i6 (lH (c.getD i n));have hg:goF n c i=c.getD i n:=by unfold goF;rw[if_pos hi]
 show il (lH (c.getD i n))<il (lH i);generalize il (lH i)=ka at a1 a2 ⊢;generalize il (lH (c.getD i n))=kb at b1 b2 ⊢;refine cc fun z=>?_
 cases ka with
 | zero=>exact a1 hi
 | succ ka =>
  rw[Cs,hg] at a1;exact a1 (b2 ka (by omega))
theorem Dz (h:¬ oE n c):det n (chM n fun i=>c.getD i n)=0:=by
 obtain⟨i,hi,hn⟩:∃ i,i<n∧goN n c n i<n:=by
  refine cc fun z=>h fun i hi hn=>z ⟨i,hi,hn⟩
 have lt:∀ k,k<=n->goN n c k i<n:=fun k hk=>by
  refine cc fun z=>?_
  have:goN n c (n-k+k) i=goN n c k i:=by rw[kP];exact Ar z
  rw[show n-k+k=n by omega] at this;rw[this] at hn;exact z hn
 obtain⟨a,b,hab,hb,heq⟩:∃ a b,a<b∧b<=n∧goN n c a i=goN n c b i:=by
  refine cc fun z=>?_
  have nd:((cu (n+1)).map fun k=>goN n c k i).Nodup:=by
   refine fk.mpr (mq (fun {x y} hx hy hxy he=>z ⟨x,y,hxy,?_,he⟩) nw)
   have:=de.mp hy
   omega
  have:=Hg.vR (ms:=cu n) nd fun y hy=>by
   obtain⟨k,hk,rfl⟩:=ar.mp hy
   have:=de.mp hk
   exact de.mpr (lt k (by omega))
  rw[aR,gi,gi] at this;omega
 have hj:=lt a (by omega);have step:∀ k,k+a<=n->goN n c k (goN n c a i)<n:=fun k hk=>by
  rw[<- kP];exact lt _ hk
 have hper:goN n c (b-a) (goN n c a i)=goN n c a i:=by
  rw[<- kP,show b-a+a=b by omega,heq]
 generalize goN n c a i=j at hj step hper;obtain⟨p,hp0,hpb,hpp,hmin⟩:∃ p,0<p∧p<=b-a∧goN n c p j=j∧∀ q,0<q->q<p->goN n c q j≠j:=by
  have:∀ N p,p<=N->0<p->p<=b-a->goN n c p j=j->∃ p,0<p∧p<=b-a∧goN n c p j=j∧∀ q,0<q->q<p->goN n c q j≠j:=fun N=>by
   induction N with
   | zero=>intro p h1 h2;omega
   | succ N ih =>
    intro p h1 h2 h3 h4;by_cases hq:∃ q,0<q∧q<p∧goN n c q j=j
    ·obtain⟨q,q1,q2,q3⟩:=hq
     exact ih q (by omega) q1 (by omega) q3
    ·exact⟨p,h2,h3,h4,fun q q1 q2 q3=>hq ⟨q,q1,q2,q3⟩⟩
  exact this (b-a) (b-a) (af _) (by omega) (af _) hper
 have eq:∀ k,k<=p->itf (fun i=>c.getD i n) k j=goN n c k j:=fun k=>by
  induction k with
  | zero=>intro _;rfl
  | succ k ih =>
   intro hk;show c.getD (itf (fun i=>c.getD i n) k j) n=goF n c (goN n c k j);rw[ih (by omega)];unfold goF;rw[if_pos (step k (by omega))]
 refine Hv (i:=j) (m:=p-1) hj (fun k hk=>?_) ?_ fun k h1 h2=>?_
 ·rw[eq (k+1) (by omega)]
  exact step (k+1) (by omega)
 ·rw[show p-1+1=p by omega,eq p (af _),hpp]
 ·rw[eq k (by omega)]
  exact hmin k h1 (by omega)
theorem Dp [DecidablePred (oE n)]:det n (chA n Ws [])=(((Co Ws n).filter fun c=>decide (oE n c)).length:Nat):=by
 rw[Cf (af n)];have key:∀ l:List (List Nat),(∀ c∈l,c.length=n)->(l.map fun c=>det n (chA n Ws c)).sum=((l.filter fun c=>decide (oE n c)).length:Nat):=fun l=>by
  induction l with
  | nil=>intro _;rfl
  | cons c l ih =>
   intro hl;rw[a0,dk,ih fun c hc=>hl c (ai _ hc),Jy (hl c (am ..)),du];by_cases hc:oE n c
   ·rw[Di hc,if_pos (decide_eq_true hc),aw]
    omega
   ·rw[Dz hc,if_neg (by rw[decide_eq_false hc];exact ak)]
    omega
 exact key _ fun c hc=>qR hc
end
def cE (words:List (List Nat))(o:List Nat):Int:=((words.countP fun w=>decide (w.drop 1=o):Nat):Int)
def rI (texts:List (List Nat))(t:List Nat)(words:List (List Nat)):List Int:=texts.map fun o=>if o=t then ((words.length:Nat):Int)-cE words t else-cE words o
def wS (ls:List (List Nat))(g:List Nat->List (List Nat))(i:Nat):List Nat:=(g (ls.getD i [])).map fun w=>ls.idxOf (w.drop 1)
theorem Lm {w:List Nat}{ws:List (List Nat)}{o:List Nat}:cE (w::ws) o=cE ws o+if w.drop 1=o then 1 else 0:=by
 unfold cE;rw[m7];by_cases h:w.drop 1=o
 ·rw[if_pos (decide_eq_true h),if_pos h];omega
 ·rw[if_neg (fun z=>h (of_decide_eq_true z)),if_neg h];omega
theorem yG {ls:List (List Nat)}(hnd:ls.Nodup){i k:Nat}(hk:k<ls.length):∀ ws:List (List Nat),((ws.map fun w=>ls.idxOf (w.drop 1)).map fun w=>rP ls.length i w k).sum=(if i=k then ((ws.length:Nat):Int) else 0)-cE ws ls[k]
 | []=>by
  show (0:Int)=_-((0:Nat):Int);split <;> simp
 | w::ws=>by
  rw[a0,a0,dk,yG hnd hk ws,Lm];have e:(if ls.idxOf (w.drop 1)<ls.length then un (ls.idxOf (w.drop 1)) k else 0)=if w.drop 1=ls[k] then (1:Int) else 0:=by
   by_cases h:w.drop 1=ls[k]
   ·rw[if_pos h,h,hnd.idxOf_getElem,if_pos hk]
    simp[un]
   ·rw[if_neg h]
    split
    ·rename_i hlt
     have hne:ls.idxOf (w.drop 1)≠k:=fun z=>h (by
      have:=pw hlt
      subst z;exact this.symm)
     unfold un;rw[if_neg (Ne.symm hne)]
    ·rfl
  show un i k-(if ls.idxOf (w.drop 1)<ls.length then un (ls.idxOf (w.drop 1)) k else 0)+_=_;rw[e,aw];by_cases hik:i=k
  ·rw[if_pos hik,if_pos hik,hik]
   simp[un];omega
  ·rw[if_neg hik,if_neg hik]
   simp[un,hik,Ne.symm hik];omega
theorem Ka {ls:List (List Nat)}(hnd:ls.Nodup)(g:List Nat->List (List Nat)):det ls.length (ent (ls.map fun t=>rI ls t (g t)))=det ls.length (chA ls.length (wS ls g) []):=bR fun i k hi hk=>by
 show ((ls.map fun t=>rI ls t (g t)).getD i []).getD k 0=((wS ls g i).map fun w=>rP ls.length i w k).sum;unfold wS;rw[yG hnd hk,ah,ah,aj,aa hi];show ((rI ls ls[i] (g ls[i]))[k]?).getD 0=_;unfold rI;rw[aj,aa hk,ah,aa hi];show (if ls[k]=ls[i] then _ else _)=(if i=k then (((g ls[i]).length:Nat):Int) else 0)-cE (g ls[i]) ls[k];by_cases hik:i=k
 ·subst hik
  rw[if_pos rfl,if_pos rfl]
 ·rw[if_neg hik,if_neg (fun z=>hik (by have a:=hnd.idxOf_getElem i hi;have b:=hnd.idxOf_getElem k hk;rw[z,a] at b;exact b)),ln]
def sT (ls:List (List Nat))(cw:List Nat->List Nat)(t:List Nat):List Nat:=if t∈ls then (cw t).drop 1 else t
def iT (ls:List (List Nat))(cw:List Nat->List Nat):Nat->List Nat->List Nat
 | 0,t=>t
 | k+1,t=>sT ls cw (iT ls cw k t)
def plc (ls:List (List Nat))(cw:List Nat->List Nat):List Nat:=ls.map fun t=>ls.idxOf ((cw t).drop 1)
theorem zU {ls:List (List Nat)}(cw:List Nat->List Nat){t:List Nat}:∀ k:Nat,goN ls.length (plc ls cw) k (ls.idxOf t)=ls.idxOf (iT ls cw k t)
 | 0=>rfl
 | k+1=>by
  show goF ls.length (plc ls cw) (goN ls.length (plc ls cw) k (ls.idxOf t))=ls.idxOf (sT ls cw (iT ls cw k t));rw[zU cw k];unfold goF sT;by_cases h:iT ls cw k t∈ls
  ·have hl:ls.idxOf (iT ls cw k t)<ls.length:=i8 h
   rw[if_pos hl,if_pos h];unfold plc;rw[ah,aj,aa hl,pw hl];rfl
  ·have hl:¬ ls.idxOf (iT ls cw k t)<ls.length:=fun z=>h (mw.mp z)
   rw[if_neg hl,if_neg h]
theorem Dk {ls:List (List Nat)}(hnd:ls.Nodup)(cw:List Nat->List Nat):oE ls.length (plc ls cw)↔(ls.all fun t=>decide (iT ls cw ls.length t∉ls))=true:=by
 rw[dh];constructor
 ·intro h t ht
  refine decide_eq_true fun z=>h (ls.idxOf t) (i8 ht) ?_
  rw[zU];exact i8 z
 ·intro h i hi z
  have e:=zU (ls:=ls) cw (t:=ls[i]) ls.length;rw[hnd.idxOf_getElem i hi] at e;rw[e] at z;exact of_decide_eq_true (h ls[i] (b6 hi)) (mw.mp z)
inductive R2 {α β:Type}(R:α->β->Prop):List α->List β->Prop
 | nil:R2 R [] []
 | cons {a:α} {b:β} {as:List α} {bs:List β}:R a b->R2 R as bs->R2 R (a::as) (b::bs)
section
variable {α β:Type}{R R':α->β->Prop}{as:List α}{bs:List β}
theorem R2.len (h:R2 R as bs):as.length=bs.length:=by
 induction h with
 | nil=>rfl
 | cons _ _ ih=>rw[aw,aw,ih]
theorem R2.mono (h:R2 R as bs)(f:∀ a b,a∈as->R a b->R' a b):R2 R' as bs:=by
 induction h with
 | nil=>exact .nil
 | cons r _ ih=>exact .cons (f _ _ (am ..) r) (ih fun a b ha=>f a b (ai _ ha))
theorem R2.get (h:R2 R as bs):∀ {i:Nat} {b:β},bs[i]?=some b->∃ a,as[i]?=some a∧R a b:=by
 induction h with
 | nil=>intro i b e;simp at e
 | cons r _ ih =>
  intro i b e
  cases i with
  | zero=>rw[List.getElem?_cons_zero] at e;cases e;exact⟨_,rfl,r⟩
  | succ i=>rw[m8] at e;rw[m8];exact ih e
theorem R2.snoc {a:α}{b:β}(h:R2 R as bs)(r:R a b):R2 R (as++[a]) (bs++[b]):=by
 induction h with
 | nil=>exact .cons r .nil
 | cons r' _ ih=>exact .cons r' ih
end
abbrev W:=List Nat
def dA (f:W->W)(t w:W):W->W:=fun x=>if x=t then w else f x
theorem Dr {f:W->W}{a b x y:W}(h:a≠b):dA (dA f a x) b y=dA (dA f b y) a x:=by
 funext z
 unfold dA;by_cases h1:z=b
 ·rw[if_pos h1,if_neg (fun e=>h (e.symm.trans h1)),if_pos h1]
 ·rw[if_neg h1,if_neg h1]
theorem iF {f:W->W}{t w:W}:dA f t w t=w:=by unfold dA;rw[if_pos rfl]
theorem lZ {f:W->W}{t w x:W}(h:x≠t):dA f t w x=f x:=by unfold dA;rw[if_neg h]
def chs (g:W->List W):List W->List (W->W)
 | []=>[fun _=>[]]
 | t::ls=>(chs g ls).flatMap fun f=>(g t).map fun w=>dA f t w
theorem uK {g:W->List W}:∀ {ls:List W} {f:W->W},f∈chs g ls->∀ t∈ls,f t∈g t
 | t::ls,f,h,x,hx=>by
  obtain⟨f',h1,h2⟩:=ik.mp h;obtain⟨w,hw,rfl⟩:=ar.mp h2;by_cases e:x=t
  ·subst e;rw[iF];exact hw
  ·rw[lZ e];exact uK h1 x ((au.mp hx).resolve_left e)
theorem uZ {α β γ:Type}{F:α->β->γ}(as:List α)(bs:List β):(as.flatMap fun a=>bs.map fun b=>F a b).Perm (bs.flatMap fun b=>as.map fun a=>F a b):=by
 induction as with
 | nil=>simp
 | cons a as ih =>
  rw[ca];refine (j8 _ ih).trans ?_;clear ih
  induction bs with
  | nil=>simp
  | cons b bs ih2 =>
   rw[ca,ca,a0,a0,qw,qw];refine List.Perm.cons _ ?_;refine List.Perm.trans ?_ (j8 _ ih2);rw[<- g8,<- g8];exact List.Perm.append_right _ List.perm_append_comm
theorem gH {α β:Type}{F G:α->List β}:∀ {l:List α},(∀ a∈l,(F a).Perm (G a))->(l.flatMap F).Perm (l.flatMap G)
 | [],_=>by simp
 | a::l,h=>by
  rw[ca,ca];exact (h a (am ..)).append (gH fun b hb=>h b (ai _ hb))
theorem Ft {g:W->List W}{ls ms:List W}(h:ls.Perm ms):ls.Nodup->(chs g ls).Perm (chs g ms):=by
 induction h with
 | nil=>intro _;exact .refl _
 | cons t _ ih=>intro hn;exact (ih (b9.mp hn).2).flatMap_right _
 | swap a b l =>
  intro hn;have hab:b≠a:=fun e=>(b9.mp hn).1 (e▸am ..)
  show (((chs g l).flatMap fun f=>(g a).map fun w=>dA f a w).flatMap fun f=>(g b).map fun w=>dA f b w).Perm (((chs g l).flatMap fun f=>(g b).map fun w=>dA f b w).flatMap fun f=>(g a).map fun w=>dA f a w);rw[l5,l5];refine gH fun f _=>?_
  rw[jg,jg];have e:(fun x=>(g a).map fun y=>dA (dA f b x) a y)=fun x=>(g a).map fun y=>dA (dA f a y) b x:=by
   funext x;congr 1;funext y;exact Dr hab
  have e2:=uZ (F:=fun x y=>dA (dA f a x) b y) (g a) (g b);refine e2.trans ?_;rw[e]
 | trans h1 _ ih1 ih2=>intro hn;exact (ih1 hn).trans (ih2 (h1.nodup_iff.mp hn))
def cmT (ls:List W)(cw:W->W):Bool:=ls.all fun t=>decide (iT ls cw ls.length t∉ls)
theorem uV {ls ms:List W}(h:∀ t,t∈ls↔t∈ms){cw:W->W}{t:W}:∀ k,iT ls cw k t=iT ms cw k t
 | 0=>rfl
 | k+1=>by
  show sT ls cw (iT ls cw k t)=sT ms cw (iT ms cw k t);rw[uV h k];unfold sT;by_cases e:iT ms cw k t∈ms
  ·rw[if_pos e,if_pos ((h _).mpr e)]
  ·rw[if_neg e,if_neg (fun z=>e ((h _).mp z))]
theorem wH {ls ms:List W}(h:ls.Perm ms)(cw:W->W):cmT ls cw=cmT ms cw:=by
 unfold cmT;rw[ci,dh,dh];have hm:∀ t,t∈ls↔t∈ms:=fun t=>h.mem_iff
 constructor
 ·intro q t ht
  have:=of_decide_eq_true (q t ((hm t).mpr ht))
  rw[uV hm,h.length_eq] at this;exact decide_eq_true fun z=>this ((hm _).mpr z)
 ·intro q t ht
  have:=of_decide_eq_true (q t ((hm t).mp ht))
  rw[<- uV hm,<- h.length_eq] at this;exact decide_eq_true fun z=>this ((hm _).mp z)
def nC (ls:List W)(g:W->List W):Nat:=((chs g ls).filter (cmT ls)).length
theorem vL {ls ms:List W}(h:ls.Perm ms)(hn:ls.Nodup)(g:W->List W):nC ls g=nC ms g:=by
 unfold nC;rw[((Ft (g:=g) h hn).filter (cmT ls)).length_eq]
 congr 2
 funext f
 exact wH h f
theorem nE {g g':W->List W}:∀ {ls:List W},(∀ t∈ls,g t=g' t)->chs g ls=chs g' ls
 | [],_=>rfl
 | t::ls,h=>by
  show (chs g ls).flatMap _=(chs g' ls).flatMap _;rw[nE fun x hx=>h x (ai _ hx),h t (am ..)]
theorem yA {ls:List W}(hn:ls.Nodup){g:W->List W}:∀ m,m<=ls.length->Co (wS ls g) m=(chs g (ls.take m).reverse).map fun f=>(ls.take m).map fun t=>ls.idxOf ((f t).drop 1)
 | 0,_=>by rw[gh];rfl
 | m+1,h=>by
  have hm:m<ls.length:=h;have ht:ls.take (m+1)=ls.take m++[ls[m]]:=by rw[br,aa hm];rfl
  rw[ht,lj];show (Co (wS ls g) m).flatMap _=((chs g (ls.take m).reverse).flatMap fun f=>(g ls[m]).map fun w=>dA f ls[m] w).map _;rw[yA hn m (by omega),jg,m9];have hnot:ls[m]∉ls.take m:=fun z=>by
   have nd:(ls.take m++[ls[m]]).Nodup:=ht▸hn.sublist (fh (m+1) ls);exact (di.mp nd).2.2 _ z _ (aq.mpr rfl) rfl
  congr 1
  funext f
  unfold wS;rw[ah,aa hm,bf,bf];refine bb fun w _=>?_
  show (ls.take m).map _++[_]=(ls.take m++[ls[m]]).map _;rw[ax,l6]
  congr 1
  ·refine bb fun t ht=>?_
   show _=ls.idxOf ((dA f ls[m] w t).drop 1);rw[lZ (fun e=>hnot (by rw[<- e];exact ht))]
  ·show _=[ls.idxOf ((dA f ls[m] w ls[m]).drop 1)]
   rw[iF]
theorem Po {ls:List W}(hn:ls.Nodup)(g:W->List W):det ls.length (ent (ls.map fun t=>rI ls t (g t)))=((nC ls g:Nat):Int):=by
 classical
 rw[Ka hn,Dp,yA hn ls.length (af _),bv];rw[vL (jz ls).symm hn g];unfold nC;rw[jr,aR]
 congr 3
 funext f
 rw[wH (jz ls)];show decide (oE ls.length (plc ls f))=cmT ls f;rw[ci,decide_eq_true_iff];exact Dk hn f
theorem qE {g:W->List W}:∀ ls:List W,(chs g ls).length<=2 ^ (ls.map fun t=>(g t).length).sum
 | []=>af 1
 | t::ls=>by
  have ih:=qE (g:=g) ls;have e:(chs g (t::ls)).length=(chs g ls).length*(g t).length:=by
   show ((chs g ls).flatMap fun f=>(g t).map fun w=>dA f t w).length=_;generalize chs g ls=l
   induction l with
   | nil=>simp
   | cons f l ihl=>rw[ca,ag,aR,ihl,aw,gt,gf,iw]
  rw[e,a0,dk,ja,dw];exact fj (dv Nat.lt_two_pow_self) ih
end Dt
namespace Hg
variable {bg en:List Nat->List Nat}
end Hg
namespace Wd
open Hg
def beg (l:W):W:=l.take (l.length-1)
def fin (l:W):W:=l.drop 1
def sl (t:W)(i j:Nat):W:=(t.drop i).take (j-i)
def hd (w:W):Nat:=w.getD 0 0
section
variable {t:W}{n a b c d:Nat}
end
end Wd
namespace Wd
section
variable {r g:W}{n:Nat}
end
def num (k:Nat)(w:W):Nat:=w.foldl (fun a c=>a*k+(c-97)) 0
def Okk (k:Nat)(w:W):Prop:=∀ c∈w,97<=c∧c<97+k
def Lst (w:W):Prop:=w=lH w
def fill (k n:Nat)(p:W):W:=p++lx (n-p.length) (96+k)
instance (w:W):Decidable (Lst w):=inferInstanceAs (Decidable (w=lH w))
structure LW (k n:Nat)(w:W):Prop where
 len:w.length=n
 ok:Okk k w
 lst:Lst w
def Nn (k:Nat)(w:W)(m:Nat):Prop:=∀ v,LW k w.length v->∀ p,m<=p->p<w.length->v.take p=w.take p->¬ w.getD p 0<v.getD p 0
theorem pS:∀ (a b:List W),a.Nodup->(∀ x∈a,x∈b)->a.length<=b.length
 | [],b,_,_=>bi _
 | x::a,b,hn,hs=>by
  obtain⟨h1,h2⟩:=b9.mp hn;have hx:x∈b:=hs x am
  have:=pS a (b.erase x) h2 fun y hy=>(o0 (fun e=>h1 (by rw[<- e];exact hy))).mpr (hs y (ai _ hy))
  rw[mo hx] at this;have hp:0<b.length:=nu hx;rw[aw];omega
section
variable {k n:Nat}{t:W}
theorem full {a b:List W}(hn:a.Nodup)(hs:∀ x∈a,x∈b)(hl:b.length<=a.length){x:W}(hx:x∈b):x∈a:=by
 refine cc fun hno=>?_
 have:=pS (x::a) b (b9.mpr ⟨hno,hn⟩) fun y hy=>by
  rcases au.mp hy with rfl | hy
  ·exact hx
  ·exact hs y hy
 rw[aw] at this;omega
end
open Hg
def lst (us:List W):W:=us.getD (us.length-1) []
def ext (ws us:List W):List (List W):=(ws.filter fun w=>decide (beg w=fin (lst us)) && !decide (w∈us)).map fun w=>us++[w]
section
variable {ws us:List W}{w0 w:W}{n k:Nat}
end
section
variable {E L us:List W}{s t v p q w:W}
end
end Wd
namespace Dt
open Wd Hg
section
variable {ts:List W}{f:W->W}
theorem Gc {t:W}(h:t∉ts):∀ k,iT ts f k t=t
 | 0=>rfl
 | k+1=>by
  show sT ts f (iT ts f k t)=t;rw[Gc h k];unfold sT;rw[if_neg h]
end
def og (E:List W)(t:W):List W:=E.filter fun w=>decide (beg w=t)
def rm (E:List W)(w:W):List W:=E.filter fun x=>!decide (x=w)
section
variable {E:List W}{a b t w:W}
theorem jT:w∈og E t↔w∈E∧beg w=t:=by unfold og;rw[cf,decide_eq_true_iff]
end
def Qp:Nat->List W->W->W->List (List W)
 | 0,_,a,b=>if a=b then [[]] else []
 | n+1,E,a,b=>(og E a).flatMap fun w=>(Qp n (rm E w) (fin w) b).map fun us=>w::us
def eN (E:List W)(a b:W):Nat:=(Qp E.length E a b).length
def nW (ts:List W)(a:W)(g:W->List W)(w:W):Nat:=((chs g ts).filter fun f=>cmT (a::ts) (dA f a w)).length
theorem Bx {ts:List W}{a:W}{g:W->List W}:nC (a::ts) g=((g a).map (nW ts a g)).sum:=by
 show (((chs g ts).flatMap fun f=>(g a).map fun w=>dA f a w).filter (cmT (a::ts))).length=((g a).map fun w=>((chs g ts).filter fun f=>cmT (a::ts) (dA f a w)).length).sum;generalize chs g ts=l
 induction l with
 | nil =>
  show 0=((g a).map fun w=>0).sum;generalize g a=l
  induction l with
  | nil=>rfl
  | cons w l ih=>rw[a0,dk,<- ih]
 | cons f l ih =>
  rw[ca,d8,ag,ih];clear ih;generalize g a=m
  induction m with
  | nil=>rfl
  | cons w m ih =>
   rw[a0,a0,a0,dk,dk,du,du];by_cases hc:cmT (a::ts) (dA f a w)=true
   ·rw[if_pos hc,if_pos hc,aw,aw];omega
   ·rw[if_neg hc,if_neg hc];omega
theorem Gy {ts:List W}{a w:W}{g g':W->List W}(h:∀ t∈ts,g t=g' t):nW ts a g w=nW ts a g' w:=by unfold nW;rw[nE h]
end Dt
namespace Wd
def it (f:W->W):Nat->W->W
 | 0,w=>w
 | k+1,w=>f (it f k w)
section
variable {f:W->W}{L:List W}{w:W}{p:Nat}
end
section
variable {f:W->W}{r:W}{n:Nat}{L:List W}
end
open Hg
section
variable {ms us xs ys:List W}{p q r t e w0:W}{n:Nat}
end
section
variable {ms us vs:List W}{p q m0 t:W}{n:Nat}
end
end Wd
namespace Dt
open Wd Hg
def rk (b:W):List W->List W->Nat
 | _,[]=>0
 | E,w::us=>(((og E (beg w)).filter fun x=>decide (x<w)).map fun x=>eN (rm E x) (fin x) b).sum+rk b (rm E w) us
theorem zF {E:List W}(hn:E.Nodup)(hs:E.Pairwise fun x y=>¬ y<x):E.Pairwise (· < ·):=by
 refine ud (fun a b h1 h2=>?_) hs hn;exact cc fun z=>h2 (iu a b z h1)
section
variable {m0:W}{us vs ms:List W}{n:Nat}
end
theorem Oz {ts:List W}{t:W}{g:W->List W}(hn:ts.Nodup)(ht:t∈ts):((g t).map fun w=>nC ts (fun x=>if x=t then [w] else g x)).sum=nC ts g:=by
 have hp:=List.perm_cons_erase ht;have hn':=hp.nodup_iff.mp hn;have hnt:t∉ts.erase t:=(b9.mp hn').1;rw[vL hp hn,Bx]
 congr 1
 refine bb fun w _=>?_
 rw[vL hp hn,Bx];show (List.map (nW (ts.erase t) t _) (if t=t then [w] else g t)).sum=_;rw[if_pos rfl];show nW (ts.erase t) t _ w+0=_;rw[qm];exact Gy fun x hx=>by
  have hne:x≠t:=fun z=>hnt (z▸hx)
  rw[if_neg hne]
def rB (g:W->List W)(t w:W):W->List W:=fun x=>if x=t then [w] else g x
theorem mY {g:W->List W}{t w:W}:rB g t w t=[w]:=if_pos rfl
theorem fW {g:W->List W}{t w x:W}(h:x≠t):rB g t w x=g x:=if_neg h
def trs (ts:List W):List W->(W->List W)->List (List W)
 | [],g=>if cmT ts (fun t=>(g t).headD [])=true then [[]] else []
 | t::r,g=>(g t).flatMap fun w=>(trs ts r (rB g t w)).map fun us=>w::us
def Fix (ts r:List W)(g:W->List W):Prop:=∀ t∈ts,t∉r->∃ w,g t=[w]
theorem Fix.set {ts r:List W}{g:W->List W}{t w:W}(h:Fix ts (t::r) g):Fix ts r (rB g t w):=fun x hx hr=>by
 by_cases e:x=t
 ·exact⟨w,by rw[e,mY]⟩
 ·rw[fW e]
  exact h x hx fun z=>(au.mp z).elim e hr
theorem Bf {g:W->List W}:∀ {ls:List W},(∀ t∈ls,∃ w,g t=[w])->∃ f,chs g ls=[f]∧∀ t∈ls,f t=(g t).headD []
 | [],_=>⟨_,rfl,fun t h=>(by cases h)⟩
 | t::ls,h=>by
  obtain⟨f,h1,h2⟩:=Bf (ls:=ls) fun x hx=>h x (ai _ hx)
  obtain⟨w,hw⟩:=h t (am ..);refine⟨dA f t w,?_,fun x hx=>?_⟩
  ·show ((chs g ls).flatMap fun f=>(g t).map fun w=>dA f t w)=_
   rw[h1,hw];rfl
  ·by_cases e:x=t
   ·rw[e,iF,hw]
    rfl
   ·rw[lZ e]
    exact h2 x ((au.mp hx).resolve_left e)
theorem wT {ls:List W}{f f':W->W}(h:∀ t∈ls,f t=f' t){t:W}:∀ k,iT ls f k t=iT ls f' k t
 | 0=>rfl
 | k+1=>by
  show sT ls f (iT ls f k t)=sT ls f' (iT ls f' k t);rw[wT h k];unfold sT;split
  ·rename_i hm
   rw[h _ hm]
  ·rfl
theorem eO {ls:List W}{f f':W->W}(h:∀ t∈ls,f t=f' t):cmT ls f=cmT ls f':=by
 unfold cmT
 congr 1
 funext t
 rw[wT h]
theorem pO {ts:List W}(hn:ts.Nodup):∀ {r:List W} {g:W->List W},(∀ t∈r,t∈ts)->Fix ts r g->(trs ts r g).length=nC ts g
 | [],g,_,hf=>by
  obtain⟨f,h1,h2⟩:=Bf (g:=g) (ls:=ts) fun t ht=>hf t ht (by simp)
  unfold nC;rw[h1];show (if cmT ts (fun t=>(g t).headD [])=true then [[]] else ([]:List (List W))).length=_;rw[<- eO h2];by_cases e:cmT ts f=true
  ·rw[if_pos e,c8 e]
   rfl
  ·rw[if_neg e,c9 e]
   rfl
 | t::r,g,hr,hf=>by
  show ((g t).flatMap fun w=>(trs ts r (rB g t w)).map fun us=>w::us).length=_;rw[List.length_flatMap,<- Oz hn (hr t (am ..))]
  congr 1
  refine bb fun w _=>?_
  rw[aR,pO hn (fun x hx=>hr x (ai _ hx)) hf.set];rfl
theorem zC {ts:List W}:∀ {r:List W} {g:W->List W},r.Nodup->(∀ t∈r,(g t).Pairwise (· < ·))->(trs ts r g).Pairwise (· < ·)
 | [],g,_,_=>by
  show (if cmT ts (fun t=>(g t).headD [])=true then [[]] else ([]:List (List W))).Pairwise _;split
  ·exact List.pairwise_singleton ..
  ·exact jw
 | t::r,g,hn,ha=>by
  obtain⟨h1,h2⟩:=b9.mp hn;have key:∀ l:List W,l.Pairwise (· < ·)->(l.flatMap fun w=>(trs ts r (rB g t w)).map fun us=>w::us).Pairwise (· < ·):=fun l=>by
   induction l with
   | nil=>intro _;exact jw
   | cons w l ih =>
    intro hl;obtain⟨k1,k2⟩:=l7.mp hl;rw[ca,List.pairwise_append];refine⟨?_,ih k2,?_⟩
    ·rw[fk]
     refine (zC h2 fun x hx=>?_).imp fun h=>List.Lex.cons h
     rw[fW (fun e:x=t=>h1 (e▸hx))];exact ha x (ai _ hx)
    ·intro a hA b hB
     obtain⟨us,_,rfl⟩:=ar.mp hA;obtain⟨v,hv,hB⟩:=ik.mp hB;obtain⟨vs,_,rfl⟩:=ar.mp hB;exact List.Lex.rel (k1 v hv)
  exact key _ (ha t (am ..))
def pk:List W->W->W
 | [],_=>[]
 | w::us,t=>if beg w=t then w else pk us t
theorem Cd {w:W}{us:List W}:pk (w::us) (beg w)=w:=if_pos rfl
theorem An {ts:List W}:∀ {r:List W} {g:W->List W} {us:List W},r.Nodup->(∀ t∈r,∀ w∈g t,beg w=t)->(us∈trs ts r g↔us.map beg=r∧(∀ w∈us,w∈g (beg w))∧cmT ts (fun t=>if t∈r then pk us t else (g t).headD [])=true)
 | [],g,us,_,_=>by
  show us∈(if cmT ts (fun t=>(g t).headD [])=true then [[]] else ([]:List (List W)))↔_;have e:cmT ts (fun t=>if t∈([]:List W) then pk us t else (g t).headD [])=cmT ts (fun t=>(g t).headD []):=eO fun t _=>if_neg (by simp)
  rw[e];constructor
  ·intro h
   by_cases z:cmT ts (fun t=>(g t).headD [])=true
   ·rw[if_pos z] at h
    rw[aq.mp h];exact⟨rfl,fun w hw=>(by cases hw),z⟩
   ·rw[if_neg z] at h
    cases h
  ·rintro⟨h1,_,h3⟩
   rw[if_pos h3,pc.mp h1];exact aq.mpr rfl
 | t::r,g,us,hn,hb=>by
  obtain⟨hn1,hn2⟩:=b9.mp hn;have hne:∀ x∈r,x≠t:=fun x hx e=>hn1 (e▸hx)
  have ih:=fun (w:W) (vs:List W)=>An (ts:=ts) (r:=r) (g:=rB g t w) (us:=vs) hn2 fun x hx v hv=>hb x (ai _ hx) v (by rw[fW (hne x hx)] at hv;exact hv)
  have ec:∀ (w:W) (vs:List W),beg w=t->cmT ts (fun x=>if x∈r then pk vs x else (rB g t w x).headD [])=cmT ts (fun x=>if x∈t::r then pk (w::vs) x else (g x).headD []):=fun w vs hw=>eO fun x _=>by
   by_cases hx:x=t
   ·rw[hx,if_neg hn1,if_pos (am ..),mY,<- hw,Cd]
    rfl
   ·by_cases hr:x∈r
    ·rw[if_pos hr,if_pos (ai _ hr)]
     show _=if beg w=x then w else pk vs x
     rw[if_neg fun z=>hx (z.symm.trans hw)]
    ·rw[if_neg hr,if_neg fun z=>(au.mp z).elim hx hr,fW hx]
  show us∈((g t).flatMap fun w=>(trs ts r (rB g t w)).map fun us=>w::us)↔_;rw[ik];constructor
  ·rintro⟨w,hw,h⟩
   obtain⟨vs,hv,rfl⟩:=ar.mp h;obtain⟨h1,h2,h3⟩:=(ih w vs).mp hv;have hwt:=hb t (am ..) w hw;rw[ec w vs hwt] at h3;refine⟨by rw[a0,h1,hwt],fun v hv=>?_,h3⟩;rcases au.mp hv with z | z
   ·rw[z,hwt];exact hw
   ·have:=h2 v z
    rw[fW (hne _ (by rw[<- h1];exact cy z))] at this;exact this
  ·rintro⟨h1,h2,h3⟩
   cases us with
   | nil=>cases h1
   | cons w vs =>
    obtain⟨hwt,h1⟩:=jl h1;refine⟨w,by have:=h2 w (am ..);rw[hwt] at this;exact this,cy ((ih w vs).mpr ⟨h1,fun v hv=>?_,?_⟩)⟩
    ·rw[fW (hne _ (by rw[<- h1];exact cy hv))]
     exact h2 v (ai _ hv)
    ·rw[ec w vs hwt]
     exact h3
theorem zJ:∀ {us:List W},(us.map beg).Nodup->∀ w∈us,pk us (beg w)=w
 | [],_,w,h=>by cases h
 | v::us,hn,w,h=>by
  obtain⟨h1,h2⟩:=b9.mp hn;show (if beg v=beg w then v else pk us (beg w))=w;rcases au.mp h with z | z
  ·rw[z,if_pos rfl]
  ·rw[if_neg (fun e:beg v=beg w=>h1 (e▸cy z)),zJ h2 w z]
theorem gJ {ls:List W}{f:W->W}{t:W}:∀ k,iT ls f (k+1) t=iT ls f k (sT ls f t)
 | 0=>rfl
 | k+1=>by
  show sT ls f (iT ls f (k+1) t)=sT ls f (iT ls f k (sT ls f t));rw[gJ k]
theorem mT {ls:List W}{f:W->W}{t:W}{k:Nat}(h:iT ls f k t∉ls):∀ j,iT ls f (k+j) t∉ls
 | 0=>h
 | j+1=>by
  show sT ls f (iT ls f (k+j) t)∉ls;rw[show sT ls f (iT ls f (k+j) t)=iT ls f (k+j) t from if_neg (mT h j)];exact mT h j
theorem Cb {ls:List W}{f:W->W}:∀ m,(∀ t,iT ls f (m+1) t∉ls->iT ls f m t∉ls)->∀ k t,iT ls f (m+k) t∉ls->iT ls f m t∉ls
 | m,h,0,t,hk=>hk
 | m,h,k+1,t,hk=>by
  have h':∀ j t,iT ls f (m+j+1) t∉ls->iT ls f (m+j) t∉ls:=fun j=>by
   induction j with
   | zero=>exact h
   | succ j ih =>
    intro t ht;rw[show m+(j+1)=(m+j)+1 by omega,gJ];rw[gJ] at ht;exact ih _ ht
  exact Cb m h k t (h' k t hk)
def Le (ls:List W)(f:W->W)(m:Nat):Nat:=(ls.filter fun t=>decide (iT ls f m t∉ls)).length
theorem yD {ls:List W}{f:W->W}(h:∀ t∈ls,∃ m,iT ls f m t∉ls):∀ t∈ls,iT ls f ls.length t∉ls:=by
 have key:∀ m,m<=Le ls f m∨∃ j,j<=m∧∀ t,iT ls f (j+1) t∉ls->iT ls f j t∉ls:=fun m=>by
  induction m with
  | zero=>exact .inl (bi _)
  | succ m ih =>
   rcases ih with ih | ⟨j,hj,h1⟩
   ·by_cases hz:∀ t,iT ls f (m+1) t∉ls->iT ls f m t∉ls
    ·exact .inr ⟨m,by omega,hz⟩
    ·left
     obtain⟨t0,h0⟩:=Classical.not_forall.mp hz;obtain⟨h1,h2⟩:=Classical.not_imp.mp h0;have h2:iT ls f m t0∈ls:=Classical.not_not.mp h2;have ht0:t0∈ls:=cc fun z=>by
      rw[Gc z] at h2;exact z h2
     have hlt:Le ls f m<Le ls f (m+1):=by
      unfold Le;have gen:∀ l:List W,(l.filter fun t=>decide (iT ls f m t∉ls)).length<=(l.filter fun t=>decide (iT ls f (m+1) t∉ls)).length∧(t0∈l->(l.filter fun t=>decide (iT ls f m t∉ls)).length<(l.filter fun t=>decide (iT ls f (m+1) t∉ls)).length):=fun l=>by
       induction l with
       | nil=>exact⟨af _,fun z=>(by cases z)⟩
       | cons x l ih =>
        rw[du,du];by_cases e1:iT ls f m x∉ls
        ·have e2:=mT e1 1
         rw[if_pos (decide_eq_true e1),if_pos (decide_eq_true e2),aw,aw];refine⟨Nat.succ_le_succ ih.1,fun hz=>nc (ih.2 ?_)⟩;rcases au.mp hz with z | z
         ·exact absurd (z▸h2) e1
         ·exact z
        ·rw[if_neg fun z=>e1 (of_decide_eq_true z)]
         by_cases e2:iT ls f (m+1) x∉ls
         ·rw[if_pos (decide_eq_true e2),aw]
          exact⟨Nat.le_succ_of_le ih.1,fun _=>qo ih.1⟩
         ·rw[if_neg fun z=>e2 (of_decide_eq_true z)]
          refine⟨ih.1,fun hz=>ih.2 ?_⟩;rcases au.mp hz with z | z
          ·exact absurd (z▸h1) e2
          ·exact z
      exact (gen ls).2 ht0
     omega
   ·exact .inr ⟨j,by omega,h1⟩
 intro t ht;rcases key ls.length with h1 | ⟨j,hj,h1⟩
 ·have h2:(ls.filter fun t=>decide (iT ls f ls.length t∉ls))=ls:=pd.mpr (List.length_filter_eq_length_iff.mp (Nat.le_antisymm (b8 ..) h1))
  exact of_decide_eq_true (pd.mp h2 t ht)
 ·obtain⟨m,hm⟩:=h t ht
  have h3:iT ls f j t∉ls:=by
   by_cases e:m<=j
   ·have:=mT hm (j-m)
    rw[show m+(j-m)=j by omega] at this;exact this
   ·refine Cb j h1 (m-j) t ?_
    rw[show j+(m-j)=m by omega];exact hm
  have:=mT h3 (ls.length-j)
  rw[show j+(ls.length-j)=ls.length by omega] at this;exact this
theorem kO {a b:List W}(hn:a.Nodup)(h:∀ x∈a,x∈b):a.length<=b.length:=pS a b hn h
theorem Ij {ts us ks:List W}{p:W}(hts:ts.Nodup)(hp:p∉ts)(hb:us.map beg=ts)(he:∀ w∈us,fin w=p∨fin w∈ts)(hk:ks.Nodup)(hpk:p∈ks)(hc:∀ w∈us,fin w∈ks->beg w∈ks)(hm:∀ χ:W->Prop,χ p->(∀ w∈us,χ (fin w)->χ (beg w))->∀ k∈ks,χ k) :
  ks.length=ts.length+1↔cmT ts (pk us)=true:=by
 have hbn:(us.map beg).Nodup:=by rw[hb];exact hts
 have hin:∀ w∈us,beg w∈ts:=fun w hw=>by rw[<- hb];exact cy hw
 have hof:∀ t∈ts,∃ w∈us,beg w=t:=fun t ht=>by rw[<- hb] at ht;exact ar.mp ht
 have hst:∀ w∈us,sT ts (pk us) (beg w)=fin w:=fun w hw=>by
  unfold sT;rw[if_pos (hin w hw),zJ hbn w hw];rfl
 have hsub:∀ k∈ks,k∈p::ts:=hm (fun k=>k∈p::ts) (am ..) fun w hw _=>ai _ (hin w hw)
 have hcm:cmT ts (pk us)=true↔∀ t∈ts,iT ts (pk us) ts.length t∉ts:=by
  unfold cmT;rw[dh];exact⟨fun h t ht=>of_decide_eq_true (h t ht),fun h t ht=>decide_eq_true (h t ht)⟩
 rw[hcm];constructor
 ·intro hl
  have hall:∀ t∈ts,t∈ks:=fun t ht=>Wd.full hk hsub (by rw[aw];omega) (ai _ ht)
  have h1:=hm (fun k=>∃ m,iT ts (pk us) m k∉ts) ⟨0,hp⟩ fun w hw ⟨m,h⟩=>⟨m+1,by rw[gJ,hst w hw];exact h⟩
  exact yD fun t ht=>h1 t (hall t ht)
 ·intro h
  have hto:∀ m t,(t=p∨t∈ts)->iT ts (pk us) m t∉ts->t∈ks:=fun m=>by
   induction m with
   | zero =>
    intro t ht hn;rcases ht with z | z
    ·rw[z];exact hpk
    ·exact absurd z hn
   | succ m ih =>
    intro t ht hn;rcases ht with z | z
    ·rw[z];exact hpk
    ·obtain⟨w,hw,rfl⟩:=hof t z
     rw[gJ,hst w hw] at hn;exact hc w hw (ih _ (he w hw) hn)
  have h1:(p::ts).length<=ks.length:=kO (b9.mpr ⟨hp,hts⟩) fun x hx=>by
   rcases au.mp hx with z | z
   ·rw[z];exact hpk
   ·exact hto _ x (.inr z) (h x z)
  have h2:=kO hk hsub;rw[aw] at h1 h2;omega
def Rb (us:List W)(p z:W):Prop:=∀ χ:W->Prop,χ p->(∀ w∈us,χ (fin w)->χ (beg w))->χ z
theorem Rb.mono {us vs:List W}{p z:W}(h:Rb us p z)(s:∀ w∈us,w∈vs∨beg w=p):Rb vs p z:=fun χ h1 h2=>h χ h1 fun w hw hf=>by
 rcases s w hw with e | e
 ·exact h2 w e hf
 ·rw[e];exact h1
def okP (ts:List W)(p:W)(us:List W):Prop:=∀ t∈ts,Rb us p t
theorem okP.mono {ts us vs:List W}{p:W}(h:okP ts p us)(s:∀ w∈us,w∈vs∨beg w=p):okP ts p vs:=fun t ht=>(h t ht).mono s
theorem Qa {ts us:List W}{p:W}(hts:ts.Nodup)(hp:p∉ts)(hb:us.map beg=ts)(he:∀ w∈us,fin w=p∨fin w∈ts):okP ts p us↔cmT ts (pk us)=true:=by
 have hbn:(us.map beg).Nodup:=by rw[hb];exact hts
 have hin:∀ w∈us,beg w∈ts:=fun w hw=>by rw[<- hb];exact cy hw
 have hof:∀ t∈ts,∃ w∈us,beg w=t:=fun t ht=>by rw[<- hb] at ht;exact ar.mp ht
 have hst:∀ w∈us,sT ts (pk us) (beg w)=fin w:=fun w hw=>by
  unfold sT;rw[if_pos (hin w hw),zJ hbn w hw];rfl
 have hcm:cmT ts (pk us)=true↔∀ t∈ts,iT ts (pk us) ts.length t∉ts:=by
  unfold cmT;rw[dh];exact⟨fun h t ht=>of_decide_eq_true (h t ht),fun h t ht=>decide_eq_true (h t ht)⟩
 rw[hcm];constructor
 ·intro h
  exact yD fun t ht=>h t ht (fun k=>∃ m,iT ts (pk us) m k∉ts) ⟨0,hp⟩ fun w hw ⟨m,h⟩=>⟨m+1,by rw[gJ,hst w hw];exact h⟩
 ·intro h t ht χ h1 h2
  have hto:∀ m t,(t=p∨t∈ts)->iT ts (pk us) m t∉ts->χ t:=fun m=>by
   induction m with
   | zero =>
    intro t ht hn;rcases ht with z | z
    ·rw[z];exact h1
    ·exact absurd z hn
   | succ m ih =>
    intro t ht hn;rcases ht with z | z
    ·rw[z];exact h1
    ·obtain⟨w,hw,rfl⟩:=hof t z
     rw[gJ,hst w hw] at hn;exact h2 w hw (ih _ (he w hw) hn)
  exact hto _ t (.inr ht) (h t ht)
theorem Eo {ts us ks:List W}{p:W}(hts:ts.Nodup)(hp:p∉ts)(hin:∀ w∈us,beg w=p∨beg w∈ts)(hk:ks.Nodup)(hpk:p∈ks)(hc:∀ w∈us,fin w∈ks->beg w∈ks)(hm:∀ χ:W->Prop,χ p->(∀ w∈us,χ (fin w)->χ (beg w))->∀ k∈ks,χ k) :
  ks.length=ts.length+1↔okP ts p us:=by
 have hsub:∀ k∈ks,k∈p::ts:=hm (fun k=>k∈p::ts) (am ..) fun w hw _=>by
  rcases hin w hw with e | e
  ·rw[e];exact am ..
  ·exact ai _ e
 constructor
 ·intro hl t ht χ h1 h2
  exact hm χ h1 h2 t (Wd.full hk hsub (by rw[aw];omega) (ai _ ht))
 ·intro h
  have h1:(p::ts).length<=ks.length:=kO (b9.mpr ⟨hp,hts⟩) fun x hx=>by
   rcases au.mp hx with z | z
   ·rw[z];exact hpk
   ·exact h x z (·∈ks) hpk hc
  have h2:=kO hk hsub;rw[aw] at h1 h2;omega
def iU (g:W->List W):List W->List (List W)
 | []=>[[]]
 | t::r=>(g t).flatMap fun w=>(iU g r).map fun us=>w::us
theorem nY {g:W->List W}{t:W}:∀ {r:List W},iU g (r++[t])=(iU g r).flatMap fun us=>(g t).map fun w=>us++[w]
 | []=>by
  show ((g t).flatMap fun w=>[[w]])=[[]].flatMap _;rw[ca,qx,dy]
  induction g t with
  | nil=>rfl
  | cons w l ih=>rw[ca,ih];rfl
 | x::r=>by
  show ((g x).flatMap fun w=>(iU g (r++[t])).map fun us=>w::us)=((g x).flatMap fun w=>(iU g r).map fun us=>w::us).flatMap _;rw[l5];have fc:∀ {f k:W->List (List W)} {l:List W},(∀ x∈l,f x=k x)->l.flatMap f=l.flatMap k:=fun {f k l} h=>by rw[im,im,bb h]
  refine fc fun w _=>?_
  rw[nY,m9,jg];have fc2:∀ {f k:List W->List (List W)} {l:List (List W)},(∀ x∈l,f x=k x)->l.flatMap f=l.flatMap k:=fun {f k l} h=>by rw[im,im,bb h]
  refine fc2 fun us _=>?_
  rw[bf];rfl
theorem mL {g:W->List W}:∀ {r:List W} {us:List W},(∀ t∈r,∀ w∈g t,beg w=t)->us∈iU g r->us.map beg=r∧∀ w∈us,w∈g (beg w)
 | [],us,_,h=>by
  rw[aq.mp h];exact⟨rfl,fun w hw=>by cases hw⟩
 | t::r,us,hb,h=>by
  obtain⟨w,hw,h⟩:=ik.mp h;obtain⟨vs,hv,rfl⟩:=ar.mp h;obtain⟨h1,h2⟩:=mL (fun x hx=>hb x (ai _ hx)) hv;have hwt:=hb t (am ..) w hw;refine⟨by rw[a0,h1,hwt],fun v hv=>?_⟩;rcases au.mp hv with z | z
  ·rw[z,hwt];exact hw
  ·exact h2 v z
theorem qO {g g':W->List W}:∀ {r:List W},(∀ t∈r,g t=g' t)->iU g r=iU g' r
 | [],_=>rfl
 | t::r,h=>by
  show ((g t).flatMap fun w=>(iU g r).map fun us=>w::us)=_;rw[h t (am ..),qO fun x hx=>h x (ai _ hx)];rfl
theorem oV {ts:List W}:∀ {r:List W} {g:W->List W},r.Nodup->(∀ t∈r,∀ w∈g t,beg w=t)->trs ts r g=(iU g r).filter fun us=>cmT ts (fun t=>if t∈r then pk us t else (g t).headD [])
 | [],g,_,_=>by
  have e:cmT ts (fun t=>if t∈([]:List W) then pk [] t else (g t).headD [])=cmT ts (fun t=>(g t).headD []):=eO fun t _=>if_neg (by simp)
  show (if cmT ts (fun t=>(g t).headD [])=true then [[]] else [])=re _ [[]];rw[du,e];rfl
 | t::r,g,hn,hb=>by
  obtain⟨hn1,hn2⟩:=b9.mp hn;have hne:∀ x∈r,x≠t:=fun x hx e=>hn1 (e▸hx)
  show ((g t).flatMap fun w=>(trs ts r (rB g t w)).map fun us=>w::us)=((g t).flatMap fun w=>(iU g r).map fun us=>w::us).filter _;rw[pe];have fc:∀ {f k:W->List (List W)} {l:List W},(∀ x∈l,f x=k x)->l.flatMap f=l.flatMap k:=fun {f k l} h=>by rw[im,im,bb h]
  refine fc fun w hw=>?_
  have hwt:=hb t (am ..) w hw;rw[oV hn2 fun x hx v hv=>hb x (ai _ hx) v (by rw[fW (hne x hx)] at hv;exact hv),qO (g:=rB g t w) (g':=g) fun x hx=>fW (hne x hx),jr]
  congr 1
  refine j2 fun vs _=>?_
  refine eO fun x _=>?_
  by_cases hx:x=t
  ·rw[hx,if_neg hn1,if_pos (am ..),mY,<- hwt,Cd]
   rfl
  ·by_cases hr:x∈r
   ·rw[if_pos hr,if_pos (ai _ hr)]
    show _=if beg w=x then w else pk vs x
    rw[if_neg fun z=>hx (z.symm.trans hwt)]
   ·rw[if_neg hr,if_neg fun z=>(au.mp z).elim hx hr,fW hx]
open Classical in
def grL (ts:List W)(p:W)(pre:List (List W))(ws lt:List W):List (List W):=pre.flatMap fun us=>(ws.filter fun w=>decide (okP ts p (us++[w]++lt))).map fun w=>us++[w]
def ltr (ms:List W)(t:W):List W:=ms.filter fun w=>decide (t<beg w)
open Classical in
def Stg (ms ts:List W)(p:W)(i:Nat)(L:List (List W)):Prop:=L=(iU (og ms) (ts.take i)).filter fun us=>decide (i=0∨okP ts p (us++ltr ms ((ts[i-1]?).getD [])))
theorem Stg.zero {ms ts:List W}{p:W}:Stg ms ts p 0 [[]]:=by
 unfold Stg;rw[gh];show [[]]=re _ [[]];rw[c8 (by simp)];rfl
open Classical in
theorem Stg.next {ms ts:List W}{p t:W}{i:Nat}{L:List (List W)}(ha:ts.Pairwise (· < ·))(h:Stg ms ts p i L)(ht:ts[i]?=some t):Stg ms ts p (i+1) (grL ts p L (og ms t) (ltr ms t)):=by
 unfold Stg at h ⊢;have htk:ts.take (i+1)=ts.take i++[t]:=by rw[br,ht];rfl
 have hgt:(ts[i+1-1]?).getD []=t:=by rw[ly,ht];rfl
 rw[htk,nY,hgt,h];unfold grL;rw[pe];generalize hA:iU (og ms) (ts.take i)=A;have hmem:∀ us∈A,us.map beg=ts.take i∧∀ w∈us,w∈og ms (beg w):=fun us hu=>mL (g:=og ms) (fun t _ w hw=>(jT.mp hw).2) (hA▸hu)
 clear hA
 induction A with
 | nil=>rfl
 | cons us A ih =>
  have ih:=ih fun v hv=>hmem v (ai _ hv)
  obtain⟨hu1,hu2⟩:=hmem us (am ..);rw[ca];have hblk:(re (fun us=>decide (i+1=0∨okP ts p (us++ltr ms t))) ((og ms t).map fun w=>us++[w]))=((og ms t).filter fun w=>decide (okP ts p (us++[w]++ltr ms t))).map fun w=>us++[w]:=by
   rw[jr]
   congr 1
   refine j2 fun w _=>?_
   show decide (i+1=0∨okP ts p (us++[w]++ltr ms t))=_;exact decide_eq_decide.mpr ⟨fun z=>z.resolve_left (by omega),.inr⟩
  rw[hblk];by_cases hk:i=0∨okP ts p (us++ltr ms ((ts[i-1]?).getD []))
  ·rw[c8 (p:=fun us=>decide (i=0∨okP ts p (us++ltr ms ((ts[i-1]?).getD [])))) (decide_eq_true hk),ca,ih]
  ·rw[c9 (p:=fun us=>decide (i=0∨okP ts p (us++ltr ms ((ts[i-1]?).getD [])))) (fun z=>hk (of_decide_eq_true z)),ih]
   have:((og ms t).filter fun w=>decide (okP ts p (us++[w]++ltr ms t)))=[]:=by
    rw[j3];intro w hw z;refine hk (.inr ((of_decide_eq_true z).mono fun v hv=>?_));left;by_cases hi:i=0
    ·exact absurd (.inl hi) hk
    obtain⟨t',ht'⟩:∃ t',ts[i-1]?=some t':=⟨_,aa (by have:=(al.mp ht).1;omega)⟩;have hlt:t'<t:=by
     have h1:=fq.mp ha (i-1) i (al.mp ht').1 (al.mp ht).1 (by omega);rw[(al.mp ht').2,(al.mp ht).2] at h1;exact h1
    rw[ht'];show v∈us++ltr ms t';rcases a6.mp hv with z | z
    ·rcases a6.mp z with z | z
     ·exact cn _ z
     ·rw[aq.mp z]
      refine av _ (cf.mpr ⟨(jT.mp hw).1,decide_eq_true ?_⟩);rw[(jT.mp hw).2];exact hlt
    ·obtain⟨z1,z2⟩:=cf.mp z
     exact av _ (cf.mpr ⟨z1,decide_eq_true (jm hlt (of_decide_eq_true z2))⟩)
   rw[this];rfl
theorem Stg.len {ms ts:List W}{p:W}{i:Nat}{L:List (List W)}(h:Stg ms ts p i L):L.length<=(iU (og ms) (ts.take i)).length:=by
 unfold Stg at h;rw[h];exact b8 ..
open Classical in
theorem Stg.last {ms ts:List W}{p:W}{L:List (List W)}(ha:ts.Pairwise (· < ·))(hp:p∉ts)(hpc:∀ w∈ms,(beg w=p∨beg w∈ts)∧(fin w=p∨fin w∈ts))(h:Stg ms ts p ts.length L):L=trs ts ts (og ms):=by
 have hn:ts.Nodup:=ha.imp fun z e=>absurd (e▸z) (fo _)
 unfold Stg at h;rw[bv] at h;rw[h,oV hn fun t _ w hw=>(jT.mp hw).2];refine j2 fun us hu=>?_
 obtain⟨h1,h2⟩:=mL (g:=og ms) (fun t _ w hw=>(jT.mp hw).2) hu;rw[eO (f':=pk us) fun t ht=>if_pos ht,ci,decide_eq_true_iff,<- Qa hn hp h1 fun w hw=>(hpc w (jT.mp (h2 w hw)).1).2];constructor
 ·rintro (z | z)
  ·intro t ht
   rw[cj.mp z] at ht;cases ht
  ·refine z.mono fun w hw=>?_
   rcases a6.mp hw with e | e
   ·exact .inl e
   ·obtain⟨e1,e2⟩:=cf.mp e
    right;refine ((hpc w e1).1).resolve_right fun hm=>?_
    have e2:=of_decide_eq_true e2;obtain⟨k,hk1,hk2⟩:=List.getElem_of_mem hm;have hl:ts.length-1<ts.length:=by omega
    rw[aa hl] at e2;have e2:ts[ts.length-1]<beg w:=e2;by_cases e3:k=ts.length-1
    ·subst e3
     rw[hk2] at e2;exact fo _ e2
    ·have h3:=fq.mp ha k (ts.length-1) hk1 hl (by omega)
     rw[hk2] at h3;exact fo _ (jm e2 h3)
 ·intro z
  by_cases e:ts.length=0
  ·exact .inl e
  ·exact .inr (z.mono fun w hw=>.inl (cn _ hw))
end Dt
namespace Dt
open Wd
theorem uC {g:W->List W}:∀ (n:Nat) {so:List W},so.length=n->so.Nodup->(chs g so.reverse).map (fun f=>so.map f)=iU g so
 | 0,so,h,_=>by
  cases cj.mp h;rfl
 | n+1,so,h,hn=>by
  obtain⟨r,t,rfl⟩:∃ r t,so=r++[t]:=⟨so.dropLast,so.getLast (fun z=>by rw[z] at h;cases h),(lg _).symm⟩;rw[ag] at h;have hr:=(di.mp hn).1;have ht:t∉r:=fun z=>(di.mp hn).2.2 _ z _ (aq.mpr rfl) rfl
  have ih:=uC (g:=g) n (so:=r) (t9 h) hr;rw[nY,<- ih,lj];show ((chs g r.reverse).flatMap fun f=>(g t).map fun w=>dA f t w).map _=_;rw[m9,jg]
  congr 1
  funext f
  rw[bf];refine bb fun w _=>?_
  show (r++[t]).map (dA f t w)=r.map f++[w];rw[ax,l6,iF]
  congr 1
  exact bb fun u hu=>lZ fun e=>ht (e▸hu)
theorem Fg {f:W->W}:∀ {so:List W},(∀ t∈so,beg (f t)=t)->∀ t∈so,pk (so.map f) t=f t
 | [],_,t,h=>nomatch h
 | a::so,hb,t,h=>by
  show (if beg (f a)=t then f a else pk (so.map f) t)=f t;rw[hb a (am ..)];by_cases e:a=t
  ·rw[if_pos e,e]
  ·rw[if_neg e]
   exact Fg (fun u hu=>hb u (ai _ hu)) t ((au.mp h).resolve_left (Ne.symm e))
theorem Ll {g:W->List W}{so:List W}(hn:so.Nodup)(hb:∀ t∈so,∀ w∈g t,beg w=t):((chs g so.reverse).filter (cmT so)).map (fun f=>so.map f)=trs so so g:=by
 rw[oV hn hb,<- uC _ rfl hn,jr]
 congr 1
 refine j2 fun f hf=>?_
 have hm:∀ t∈so,f t∈g t:=fun t ht=>uK hf t (ko.mpr ht)
 refine (eO fun t ht=>?_).symm;show (if t∈so then pk (so.map f) t else _)=f t;rw[if_pos ht];exact Fg (fun u hu=>hb u hu _ (hm u hu)) t ht
theorem Bt:∀ a:Nat,a ^ 3<=3 ^ a
 | 0=>by decide
 | 1=>by decide
 | 2=>by decide
 | 3=>by decide
 | a+4=>by
  have ih:=Bt (a+3);have e3:3 ^ (a+4)=3 ^ (a+3)*3:=jf ..;rw[e3];refine a7 ?_ (gg 3 ih);have e1:(a+4) ^ 3=a ^ 3+12*a ^ 2+48*a+64:=by grind
  have e2:(a+3) ^ 3*3=3*a ^ 3+27*a ^ 2+81*a+81:=by grind
  rw[e1,e2];omega
theorem wV {g:W->List W}:∀ ls:List W,(chs g ls).length ^ 3<=3 ^ (ls.map fun t=>(g t).length).sum
 | []=>af 1
 | t::ls=>by
  have e:(chs g (t::ls)).length=(chs g ls).length*(g t).length:=by
   show ((chs g ls).flatMap fun f=>(g t).map fun w=>dA f t w).length=_;generalize chs g ls=l
   induction l with
   | nil=>simp
   | cons f l ih=>rw[ca,ag,aR,ih,aw,gt,gf,iw]
  rw[e,Nat.mul_pow,a0,dk,ja,dw];exact fj (Bt _) (wV ls)
theorem Pf {n m:Nat}(h:n ^ 3<=3 ^ m)(hm:m<=14):n<=168:=by
 have h1:3 ^ m<=3 ^ 14:=d9 (by decide) hm;refine qv fun z=>?_
 have h2:169 ^ 3<=n ^ 3:=Nat.pow_le_pow_left z 3;have h3:(3:Nat) ^ 14<169 ^ 3:=by decide
 omega
theorem Gj {g:W->List W}{ts:List W}(hn:ts.Nodup)(hs:(ts.map fun t=>(g t).length).sum<=14):(iU g ts).length<=168:=by
 rw[<- uC _ rfl hn,aR];refine Pf (wV _) ?_;rw[((jz ts).map fun t=>(g t).length).sum_nat];exact hs
open Hg
section
variable {ms us ps:List W}{p q x m0:W}{n k:Nat}
end
theorem Bz {f g:W->Nat}:∀ {l:List W},(l.map fun x=>f x+g x).sum=(l.map f).sum+(l.map g).sum
 | []=>rfl
 | x::l=>by
  rw[a0,a0,a0,dk,dk,dk,Bz (l:=l)];omega
theorem lM:∀ {l:List W},(l.map fun _=>0).sum=0
 | []=>rfl
 | x::l=>by rw[a0,dk,lM]
theorem Fq {a:W}:∀ {ps:List W},ps.Nodup->(ps.map fun b=>(if a=b then [[]] else ([]:List (List W))).length).sum<=1
 | [],_=>bi _
 | b::ps,h=>by
  obtain⟨h1,h2⟩:=b9.mp h;rw[a0,dk];by_cases e:a=b
  ·have h3:(ps.map fun b=>(if a=b then [[]] else ([]:List (List W))).length).sum=(ps.map fun _=>0).sum:=by
    congr 1
    refine bb fun y hy=>?_
    rw[if_neg (fun z:a=y=>h1 (by rw[<- e,z];exact hy))];rfl
   rw[if_pos e,h3,lM];exact af _
  ·rw[if_neg e]
   have:=Fq (a:=a) h2
   show 0+_<=1;omega
theorem Gz {E:List W}:∀ {ps:List W},ps.Nodup->(ps.map fun a=>(og E a).length).sum<=E.length:=by
 induction E with
 | nil =>
  intro ps _;show (ps.map fun _=>0).sum<=0;rw[lM];exact af _
 | cons x E ih =>
  intro ps hps;have e:∀ a,(og (x::E) a).length=(if beg x=a then [[]] else ([]:List (List W))).length+(og E a).length:=fun a=>by
   unfold og;by_cases h:beg x=a
   ·rw[c8 (p:=fun w=>decide (beg w=a)) (decide_eq_true h),if_pos h,aw]
    exact iw _ _
   ·rw[c9 (p:=fun w=>decide (beg w=a)) (fun z=>h (of_decide_eq_true z)),if_neg h]
    exact (jy _).symm
  rw[bb fun a _=>e a,Bz,aw]
  have:=Fq (a:=beg x) hps
  have:=ih hps
  omega
end Dt
namespace L2
open PySem PySem.Spec PyProof.Rows
def tx (l:List Nat):Str:=⟨l.toArray⟩
abbrev T (l:List Nat):V:=.str (tx l)
theorem fQ (l:List Nat):(tx l).length=l.length:=by simp[tx,Str.length]
theorem cZ (l:List Nat):(tx l).cps.toList=l:=by simp[tx]
theorem iN (x:Str):tx x.cps.toList=x:=by cases x;simp[tx]
theorem eF {a b:List Nat}(h:tx a=tx b):a=b:=by
 have e:=congrArg (fun x:Str=>x.cps.toList) h
 simpa [tx] using e
theorem Sf {a b:List Nat}(h:T a=T b):a=b:=eF (V.str.inj h)
theorem Mu {a b:List Nat}:decide (T a=T b)=decide (a=b):=by
 rw[ci,decide_eq_true_iff,decide_eq_true_iff];exact⟨Sf,fun h=>by rw[h]⟩
theorem Pr (a b:List Nat):tx a++tx b=tx (a++b):=by
 rw[<- iN (tx a++tx b),PySem.W.KT.app_list,cZ,cZ]
section
variable {X:Cx}
theorem hG:OpR X (binaryOp .Add) (fun x y H Q=>∃ a,x=T a∧∃ b,y=T b∧a.length+b.length<=sizeLine∧Q (T (a++b)) H):=by
 intro pins s σ H x y v u Q I rx ry h;obtain⟨a,e1,b,e2,hz,q⟩:=h;exact yI pins s σ H x y v u Q I rx ry ⟨tx a,tx b,e1,e2,by rw[fQ,fQ];exact hz,by rw[Pr];exact q⟩
theorem Kn:OpR X (compareOp .Gt) (fun x y H Q=>∃ a,x=T a∧∃ b,y=T b∧Q (.bl (decide (b<a))) H):=by
 intro pins s σ H x y v u Q I rx ry h;obtain⟨a,rfl,b,rfl,q⟩:=h;obtain⟨t,rfl⟩:=rx;obtain⟨t',rfl⟩:=ry;exact PySem.P.gt_str (bS I q (by rw[cZ,cZ]))
theorem Ao:OpR X (compareOp .Eq) (fun x y H Q=>∃ a,x=T a∧∃ b,y=T b∧Q (.bl (decide (a=b))) H):=by
 intro pins s σ H x y v u Q I rx ry h;obtain⟨a,rfl,b,rfl,q⟩:=h;exact Ml pins s σ H _ _ v u Q I rx ry ⟨rfl,by rw[Mu];exact q⟩
theorem pA:OpR X (compareOp .NotEq) (fun x y H Q=>∃ a,x=T a∧∃ b,y=T b∧Q (.bl (!decide (a=b))) H):=by
 intro pins s σ H x y v u Q I rx ry h;obtain⟨a,rfl,b,rfl,q⟩:=h;exact Gm pins s σ H _ _ v u Q I rx ry ⟨rfl,by rw[Mu];exact q⟩
theorem eA:OpR X (compareOp .Eq) (fun x y H Q=>∃ a,x = .int a∧∃ b,y = .int b∧Q (.bl (decide (a=b))) H):=by
 intro pins s σ H x y v u Q I rx ry h;obtain⟨a,rfl,b,rfl,q⟩:=h;exact Ml pins s σ H _ _ v u Q I rx ry ⟨rfl,by rw[pB,j9];exact q⟩
theorem pD:OpR X (compareOp .NotEq) (fun x y H Q=>∃ a,x = .int a∧∃ b,y = .int b∧Q (.bl (!decide (a=b))) H):=by
 intro pins s σ H x y v u Q I rx ry h;obtain⟨a,rfl,b,rfl,q⟩:=h;exact Gm pins s σ H _ _ v u Q I rx ry ⟨rfl,by rw[pB,j9];exact q⟩
theorem Bm:OpR X (compareOp .NotEq) (fun x y H Q=>∃ a,x = .bl a∧∃ b,y = .bl b∧Q (.bl (!decide (a=b))) H):=by
 intro pins s σ H x y v u Q I rx ry h;obtain⟨a,rfl,b,rfl,q⟩:=h;exact Gm pins s σ H _ _ v u Q I rx ry ⟨rfl,by rw[yW,j9];exact q⟩
def fX (l:List Nat)(lo hi:Option Int):List Nat:=(l.drop (HT.sIx l.length 0 lo)).take (HT.sIx l.length l.length hi-HT.sIx l.length 0 lo)
theorem mP (v:Option Int)(n d:Nat):(match v with | none=>(d:Int) | some i=>max 0 (min (if i<0 then i+(n:Int) else i) (n:Int)))=((HT.sIx n d v:Nat):Int):=by
 cases v with
 | none=>rfl
 | some i =>
  show max 0 (min (if i<0 then i+(n:Int) else i) (n:Int))=(((if i<0 then (i+(n:Int)).toNat else min i.toNat n):Nat):Int);by_cases hi:i<0
  ·simp only [if_pos hi];omega
  ·simp only [if_neg hi];omega
theorem xC (lo hi:Option Int)(n:Nat):Builtin.Str.strSliceIndices lo hi 1 n=Builtin.Str.strSliceIndices (some ((HT.sIx n 0 lo:Nat):Int)) (some ((HT.sIx n n hi:Nat):Int)) 1 n:=by
 have h1:=HT.vX n 0 (bi _) lo;have h2:=HT.vX n n (af _) hi;have c1:=mP lo n 0;have c2:=mP hi n n;have d1:=mP (some ((HT.sIx n 0 lo:Nat):Int)) n 0;have d2:=mP (some ((HT.sIx n n hi:Nat):Int)) n n;rw[HT.eY,eg h1] at d1;rw[HT.eY,eg h2] at d2;unfold Builtin.Str.strSliceIndices;simp only [show ((1:Int)>0) from by decide,if_true];have g:∀ a b c d:Int,a=c->b=d->sliceRange a b 1=sliceRange c d 1:=fun a b c d h1 h2=>by rw[h1,h2]
 exact g _ _ _ _ (c1.trans d1.symm) (c2.trans d2.symm)
theorem Ja (l:List Nat)(lo hi:Option Int):Txt.slice (tx l) lo hi=tx (fX l lo hi):=by
 have h1:=HT.vX l.length 0 (bi _) lo;have h2:=HT.vX l.length l.length (af _) hi;unfold Txt.slice;rw[fQ,xC];by_cases hab:HT.sIx l.length 0 lo<=HT.sIx l.length l.length hi
 ·have e:=StrLaws.sliceText_nat (tx l) hab (by rw[fQ];exact h2)
  unfold StrLaws.sliceText at e;rw[fQ,cZ] at e;exact e
 ·have e0:Builtin.Str.strSliceIndices (some ((HT.sIx l.length 0 lo:Nat):Int)) (some ((HT.sIx l.length l.length hi:Nat):Int)) 1 l.length=[]:=by
   unfold Builtin.Str.strSliceIndices sliceRange;have n1:¬ (((HT.sIx l.length 0 lo:Nat):Int)<0):=by omega
   have n2:¬ (((HT.sIx l.length l.length hi:Nat):Int)<0):=by omega
   simp only [show ((1:Int)>0) from by decide,if_true,if_neg n1,if_neg n2];have n3:¬ (max (0:Int) (min ((HT.sIx l.length 0 lo:Nat):Int) (l.length:Int))<max (0:Int) (min ((HT.sIx l.length l.length hi:Nat):Int) (l.length:Int))):=by omega
   simp[n3]
  have e1:fX l lo hi=[]:=by
   unfold fX;rw[show HT.sIx l.length l.length hi-HT.sIx l.length 0 lo=0 by omega,gh]
  rw[e0,e1]
  cases l with
  | nil=>rfl
  | cons c r=>rfl
theorem lA:SlR X (fun x lo hi H Q=>∃ a,x=T a∧a.length<=sizeLine∧Q (T (fX a lo hi)) H):=by
 intro pins s σ H x v vl vu lo hi sl Q I rx hs pl pu h;obtain⟨a,rfl,hz,q⟩:=h;obtain⟨t,rfl⟩:=rx;obtain⟨l,hl1,hl2⟩:∃ l:Option (Int×Tok),partValue l=vl∧l.map (·.1)=lo:=by
  cases pl with
  | none=>exact⟨none,rfl,rfl⟩
  | int i t=>exact⟨some (i,t),rfl,rfl⟩
 obtain⟨u,hu1,hu2⟩:∃ u:Option (Int×Tok),partValue u=vu∧u.map (·.1)=hi:=by
  cases pu with
  | none=>exact⟨none,rfl,rfl⟩
  | int i t=>exact⟨some (i,t),rfl,rfl⟩
 refine⟨"str",_,F.slot_str_getitem.lookup,typeIs_str _ _ _,?_⟩
 have hsl:s.heap.IsSlice sl l u none:=by
  obtain⟨o,ho,hc,hd⟩:=hs;exact⟨o,ho,hc,by rw[hl1,hu1];exact hd⟩
 refine wpAny_getItem_str_slice hsl rfl ?_;have key:(if ((1:Int)==1&&(Builtin.Str.strSliceIndices lo hi 1 (tx a).length).length==(tx a).length)=true then (tx a) else ⟨((Builtin.Str.strSliceIndices lo hi 1 (tx a).length).filterMap ((tx a).cps[·]?)).toArray⟩)=tx (fX a lo hi):=Ja a lo hi;unfold sliceMade slicePicked;rw[hl2,hu2];refine post_val_or_str ⟨?_,fun t' k=>?_⟩
 ·show (Txt.slice (tx a) lo hi).length<=sizeLine
  exact a7 (Txt.slice_le _ _ _) (by rw[fQ];exact hz)
 ·refine⟨T (fX a lo hi),H,I.tok _,⟨t',?_⟩,q⟩
  exact congrArg (fun z=>Value.str z t') key
theorem yQ (n:Nat)(l:List Nat):(Wd.rep n l).length=n*l.length:=Wd.Bb n l
theorem Cm (n:Nat)(c:Array Nat):∀ acc:Array Nat,(lx n c).foldl (· ++ ·) acc=acc++(Wd.rep n c.toList).toArray:=by
 induction n with
 | zero=>intro acc;simp[Wd.rep]
 | succ n ih =>
  intro acc;rw[pb,rj,ih];rw[Wd.rJ,lr]
  congr 1
  apply Array.ext';simp
theorem Pd (n:Nat)(l:List Nat):Txt.mul (tx l) (n:Int)=tx (Wd.rep n l):=by
 unfold Txt.mul;by_cases h1:(n:Int)<1
 ·have e:n=0:=by omega
  subst e;rw[if_pos h1];rfl
 ·rw[if_neg h1]
  by_cases h2:((n:Int)==1||(tx l).length==0)=true
  ·rw[if_pos h2]
   rw[iy,beq_iff_eq,beq_iff_eq,fQ] at h2;rcases h2 with h2 | h2
   ·have e:n=1:=by omega
    subst e;rw[Wd.Kk]
   ·have e:l=[]:=cj.mp h2
    subst e
    have:Wd.rep n []=[]:=cj.mp (by rw[yQ];simp)
    rw[this]
  ·rw[if_neg h2,bt,Cm]
   simp[tx]
theorem wR:OpR X (binaryOp .Mult) (fun x y H Q=>∃ a,x=T a∧∃ n:Nat,y = .int n∧(n<=sizeLine∧n*a.length<=sizeLine)∧Q (T (Wd.rep n a)) H):=by
 intro pins s σ H x y v u Q I rx ry h;obtain⟨a,rfl,n,rfl,⟨h1,h2⟩,q⟩:=h;obtain⟨t,rfl⟩:=rx;obtain⟨t',rfl⟩:=ry;have hs:sizeLine=16777216:=sizeLine_eq;refine SB.mul ⟨?_,?_,?_⟩ fun t' k=>⟨T (Wd.rep n a),H,I.tok _,⟨t',by rw[Pd]⟩,q⟩
 ·have e1:decide ((n:Int) < -(2 ^ 63:Int))=false:=decide_eq_false (by omega)
  have e2:decide ((n:Int)≥2 ^ 63)=false:=decide_eq_false (by omega);rw[e1,e2];rfl
 ·intro hn _
  rw[fQ];have h3:n*a.length<=16777216:=by omega
  intro hc;have h4:((n*a.length:Nat):Int)<=16777216:=by omega
  have hn':(0:Int)<n:=by omega
  have h5:((2 ^ 63-1)/(n:Int))*n<=2 ^ 63-1:=Int.ediv_mul_le _ (by omega);have h6:(2 ^ 63-1:Int)<((2 ^ 63-1)/(n:Int)+1)*n:=Int.lt_ediv_add_one_mul_self _ hn';have h7:((2 ^ 63-1)/(n:Int)+1)*n<=(a.length:Int)*n:=km (by omega) (by omega);have h8:((n*a.length:Nat):Int)=(a.length:Int)*n:=by rw[iz,gq]
  omega
 ·intro hn _
  rw[fQ,bt,dw];unfold Builtin.Str.tooLong;exact decide_eq_false (by omega)
theorem tO:∀ {ls:List (List Nat)} {us:List Value},bN (ls.map T) us->StrsAre us (ls.map tx)
 | [],us,r=>by
  cases r;exact .nil
 | l::ls,us,r=>by
  rw[a0] at r
  cases r with
  | cons r1 r2 =>
   obtain⟨t,rfl⟩:=r1;exact .cons _ _ (tO r2)
end
end L2
namespace L2
theorem hJ {w:List Nat}{k:Nat}(h:k<=w.length):fX w (some (k:Int)) none=w.drop k:=by
 unfold fX;rw[HT.eY,HT.eS,eg h];exact dm (by rw[bn];omega)
theorem Lk {w:List Nat}{k:Nat}(h:k<=w.length):fX w none (some (k:Int))=w.take k:=by
 unfold fX;rw[HT.eY,HT.eS,eg h,jb,jh]
open PyProof.Rows PySem PySem.Spec
structure cI (N N':List Str)(sc scope:Scope)(x:Str):Prop where
 kind:scope.kind = .function
 cell:∀ y∈scope.names,y.2≠.cell
 names:∀ y∈scope.names,y.2 = .local->scope.names.lookup y.1=some .local
 var:scope.names.lookup x=some .local
 ok:∀ y∈scope.names,y.2 = .free->sc.names.lookup y.1=some .cell∨sc.names.lookup y.1=some .free
 hd:N'[0]?=some x
 len:N'.length=N.length+1
 sub:∀ i,i<N.length->N'[i+1]?=N[i]?∨(N'[i+1]?.map fun y=>scope.names.lookup y)=some none
 noe:scope.names.lookup ("" : Str)=none
 nol:∀ y∈N'.tail,scope.names.lookup y≠some .local
 nd:N'.Nodup
def cR (cells:List (Str×Addr)):List (Str×NameKind)->List (Str×Addr)->List (Str×Addr)
 | [],acc=>acc
 | (n,k)::r,acc=>cR cells r (if k == .free then (n,(cells.lookup n).getD 0)::acc else acc)
theorem iO {cells:List (Str×Addr)}{y:Str}{c:Addr}:∀ (names:List (Str×NameKind)) (acc:List (Str×Addr)),(∀ z∈names,z.2 = .free->∃ c,cells.lookup z.1=some c) ->
  (acc.lookup y=some c->cells.lookup y=some c)->(cR cells names acc).lookup y=some c->cells.lookup y=some c
 | [],acc,_,ha,h=>ha h
 | (n,k)::r,acc,hz,ha,h=>by
  unfold cR at h;refine iO r _ (fun z hm=>hz z (ai _ hm)) (fun q=>?_) h;split at q
  ·rename_i hk
   obtain⟨c',e⟩:=hz (n,k) am (by simpa using hk);rw[ft] at q;split at q
   ·rename_i he
    have:y=n:=by simpa using he
    subst this;rw[e] at q;rw[e];exact q
   ·exact ha q
  ·exact ha q
theorem wX {cells:List (Str×Addr)}{y:Str}:∀ (names:List (Str×NameKind)) (acc:List (Str×Addr)),(∃ c,acc.lookup y=some c)->∃ c,(cR cells names acc).lookup y=some c
 | [],acc,h=>h
 | (n,k)::r,acc,⟨c,h⟩=>by
  unfold cR;refine wX r _ ?_;split
  ·rw[ft]
   split
   ·exact⟨_,rfl⟩
   ·exact⟨c,h⟩
  ·exact⟨c,h⟩
theorem mD {cells:List (Str×Addr)}{y:Str}:∀ (names:List (Str×NameKind)) (acc:List (Str×Addr)),(y,NameKind.free)∈names->∃ c,(cR cells names acc).lookup y=some c
 | (n,k)::r,acc,h=>by
  unfold cR;rcases au.mp h with e | h
  ·cases e
   refine wX r _ ⟨(cells.lookup y).getD 0,?_⟩;simp
  ·exact mD r _ h
theorem fC {scope:Scope}{env:Env}(h:∀ z∈scope.names,z.2 = .free->∃ c,env.cells.lookup z.1=some c):closureFor scope env=pure (cR env.cells scope.names []):=by
 have gen:∀ (names:List (Str×NameKind)) (acc:List (Str×Addr)),(∀ z∈names,z.2 = .free->∃ c,env.cells.lookup z.1=some c) ->
   (forIn names acc fun (x:Str×NameKind) (r:List (Str×Addr))=>(if (x.2==NameKind.free)=true then (do let a <- cellOf env x.1;pure (ForInStep.yield ((x.1,a)::r))) else pure (ForInStep.yield r):Sem (ForInStep (List (Str×Addr)))))=(pure (cR env.cells names acc):Sem (List (Str×Addr))):=by
  intro names
  induction names with
  | nil=>intro acc _;rfl
  | cons z r ih =>
   intro acc hz;obtain⟨n,k⟩:=z;rw[List.forIn_cons];unfold cR;by_cases hk:(k==NameKind.free)=true
   ·obtain⟨c,e⟩:=hz (n,k) am (by simpa using hk)
    have e':env.cells.lookup n=some c:=e;simp only [hk,if_true,cellOf,e',pure_bind,Option.getD_some];exact ih _ fun z hm=>hz z (ai _ hm)
   ·simp only [hk,cm,if_false,pure_bind]
    exact ih _ fun z hm=>hz z (ai _ hm)
 have g:=gen scope.names [] h;unfold closureFor;refine Eq.trans ?_ (congrArg (fun (m:Sem (List (Str×Addr)))=>m >>= fun cs=>pure cs) g);rfl
theorem bE (scope:Scope)(env:Env)(y:Str):(relabel scope env).names.lookup y=(scope.names.lookup y).map fun k=>if (k==NameKind.free&&env.scope.kind == .function&&env.kindOf y==some .cell)=true then NameKind.cell else k:=by
 unfold relabel;show gd y (scope.names.map fun (n,k)=>if (k==NameKind.free&&env.scope.kind == .function&&env.kindOf n==some .cell)=true then (n,NameKind.cell) else (n,k))=_
 induction scope.names with
 | nil=>rfl
 | cons z r ih =>
  obtain⟨n,k⟩:=z;rw[a0];by_cases hy:(y==n)=true
  ·have e:y=n:=by simpa using hy
   subst e;by_cases hc:(k==NameKind.free&&env.scope.kind == .function&&env.kindOf y==some .cell)=true
   ·simp only [hc,if_true,ft,beq_self_eq_true,gk]
   ·simp only [hc,if_false,ft,beq_self_eq_true,gk,cm]
  ·have hy':(y==n)=false:=by simpa using hy
   by_cases hc:(k==NameKind.free&&env.scope.kind == .function&&env.kindOf n==some .cell)=true
   ·simp only [hc,if_true,ft,hy']
    exact ih
   ·simp only [hc,if_false,ft,hy',cm]
    exact ih
theorem cT {κ:Type}:∀ {l:List (Str×κ)} {y:Str} {k:κ},l.lookup y=some k->(y,k)∈l:=fun h=>gm h
abbrev bV (X:Cx)(N':List Str)(scope:Scope)(cl:List (Str×Addr))(C:Addr)(s:Shared)(H:Hp)(fp:List Addr):Cx :=
 { X with env:=compEnvC scope cl C X.env,N:=N',s₀:=s,H₀:=H,outer:=X.stack,stack:=X.stack,ex:=fp,fn:=fun _=>false,xe:=fun _ _=>False }
abbrev Rm (cds:List Expr)(env:Env):Sem Bool:=forIn cds true fun c r=>if r=true then do let ok <- isTrue c env (eval c env);pure (ForInStep.yield ok) else pure (ForInStep.yield r)
def PTL (X:Cx)(cds:List Expr)(t:TT):Prop :=
 ∀ (pins:List (Addr×Obj)) (s:Shared) (σ:St) (H:Hp) (Q:Bool->Hp->Prop),Inv X pins σ H s->t σ H Q->wpAny (model X.prog X.w) X.A (Rm cds X.env) (TP X pins σ Q) X.xe s
theorem Bi {X:Cx}:PTL X [] (fun _ H k=>k true H):=fun pins s σ H Q I q=>wpAny_tests_nil ⟨H,I,q⟩
theorem vA {X:Cx}{cd:Expr}{tc:TT}(h:PT X cd tc):PTL X [cd] tc:=fun pins s σ H Q I q=>wpAny_tests_one (h pins s σ H Q I q)
theorem fS {prog:Program}{w:World}{A:Around}{R:Result->Shared->Prop}{s:Shared}{elt target iter:Expr}{cds:List Expr}{scope:Scope}{pos:Pos}{it acc:Value}{env:Env}(I:Nat->Shared->Prop)
  (turn:∀ n s,I n s->wpAny (model prog w) A (pyNext it) (fun r s₁=>match r with
   | none=>R (.ok .next) s₁
   | some v=>wpAny (model prog w) A (letOwnedTupleGo target it v) (fun _ s₁'=>wpAny (model prog w) A (assign target env v) (fun _ s₂=>wpAny (model prog w) A (Rm cds env) (fun ok s₂' =>
    if ok=true then wpAny (model prog w) A (eval elt env) (fun x s₃ =>
     wpAny (model prog w) A (call (.builtin "list.append") [acc,x]) (fun _ s₄=>∃ m,m<n∧I m s₄) (fun _ _=>False) s₃) (fun _ _=>False) s₂'
    else ∃ m,m<n∧I m s₂') (fun _ _=>False) s₂) (fun _ _=>False) s₁') (fun _ _=>False) s₁) (fun _ _=>False) s)
  (n:Nat) (h:I n s) :
  codeAny (model prog w) A (.compLoop (.ListComp elt [⟨target,iter,cds,0⟩] scope pos) 0 it acc env) R s:=by
 refine codeAny_loop rfl I (fun n s hI=>?_) n h;show wpAny _ A ((compTurn (.ListComp elt [⟨target,iter,cds,0⟩] scope pos) 0 it acc env).onRaise (fun x=>do noteFrame x env;theTreesLotGoes x)) _ _ s;refine wpAny_noted ?_;rw[compTurn_list];refine wpAny_bind (wpAny_standAt (wpAny_bind (wpAny_mono (turn n s hI) (fun r s₁ h₁=>?_) fun _ _ h'=>h'.elim)))
 cases r with
 | none=>exact wpAny_pure h₁
 | some v =>
  refine wpAny_bind (wpAny_mono h₁ (fun _ s₀ h₀=>?_) fun _ _ h'=>h'.elim);refine wpAny_bind (wpAny_mono h₀ (fun _ s₂ h₂=>?_) fun _ _ h'=>h'.elim);refine wpAny_bind ((wpAny_mono h₂ (fun ok s₃ h₃=>?_) fun _ _ h'=>h'.elim))
  cases ok with
  | false=>exact wpAny_pure ⟨rfl,by simpa using h₃⟩
  | true =>
   have h₃':=h₃;simp only [if_true] at h₃';exact wpAny_bind (wpAny_bind (wpAny_mono h₃' (fun x s₄ h₄=>wpAny_bind (wpAny_mono h₄ (fun _ s₅ h₅=>wpAny_pure (wpAny_pure ⟨rfl,h₅⟩)) fun _ _ h'=>h'.elim)) fun _ _ h'=>h'.elim))
theorem kF {prog:Program}{w:World}{A:Around}{R:Result->Shared->Prop}{s:Shared}{elt target iter:Expr}{scope:Scope}{pos:Pos}{it acc:Value}{env:Env}(I:Nat->Shared->Prop)
  (turn:∀ n s,I n s->wpAny (model prog w) A (pyNext it) (fun r s₁=>match r with
   | none=>R (.ok .next) s₁
   | some v=>wpAny (model prog w) A (letOwnedTupleGo target it v) (fun _ s₁'=>wpAny (model prog w) A (assign target env v) (fun _ s₂=>wpAny (model prog w) A (eval elt env) (fun x s₃ =>
    wpAny (model prog w) A (call (.builtin "list.append") [acc,x]) (fun _ s₄=>∃ m,m<n∧I m s₄) (fun _ _=>False) s₃)
    (fun _ _=>False) s₂) (fun _ _=>False) s₁') (fun _ _=>False) s₁) (fun _ _=>False) s)
  (n:Nat) (h:I n s) :
  codeAny (model prog w) A (.compLoop (.ListComp elt [⟨target,iter,[],0⟩] scope pos) 0 it acc env) R s:=by
 refine codeAny_loop rfl I (fun n s hI=>?_) n h;show wpAny _ _ ((compTurn (.ListComp elt [⟨target,iter,[],0⟩] scope pos) 0 it acc env).onRaise (fun x=>do noteFrame x env;theTreesLotGoes x)) _ _ s;refine wpAny_noted ?_;rw[compTurn_list1];refine wpAny_bind (wpAny_standAt (wpAny_bind (wpAny_mono (turn n s hI) (fun r s₁ h₁=>?_) fun _ _ h'=>h'.elim)))
 cases r with
 | none=>exact wpAny_pure h₁
 | some v =>
  refine wpAny_bind (wpAny_mono h₁ (fun _ s₁' h₁'=>?_) fun _ _ h'=>h'.elim);exact wpAny_bind (wpAny_mono h₁' (fun _ s₂ h₂=>wpAny_bind (wpAny_bind (wpAny_mono h₂ (fun x s₃ h₃=>wpAny_bind (wpAny_mono h₃
   (fun _ s₄ h₄=>wpAny_pure (wpAny_pure ⟨rfl,h₄⟩)) fun _ _ h'=>h'.elim)) fun _ _ h'=>h'.elim))) fun _ _ h'=>h'.elim)
def iZ (te:TE)(σ:St)(Q:VK)(J:It)(H1:Hp):Prop:=∀ D,H1 D=none->∃ W:Nat->Nat->List V->Hp->Prop,(∃ m,W 0 m [] (upd H1 D (.lst [])))∧∀ i m ys H2,W i m ys H2 ->
 (J.stop i H2∧Q (.ref D) H2)∨(J.go i H2∧ys.length<sizeLine∧∃ N:V->Hp->Prop,(∀ v H',N v H'->H' D=some (.lst ys)∧∃ m',m'<m∧W (i+1) m' (ys++[v]) (upd H' D (.lst (ys++[v])))) ∧
  ∀ y H',J.yld i H2 y H'->te (some y::σ) H' N)
def Ni (wi:TI)(te:TE):TE:=fun σ H Q=>wi σ H (iZ te σ Q)
def eJ (tc:TT)(te:TE)(σ:St)(Q:VK)(J:It)(H1:Hp):Prop:=∀ D,H1 D=none->∃ W:Nat->Nat->List V->Hp->Prop,(∃ m,W 0 m [] (upd H1 D (.lst [])))∧∀ i m ys H2,W i m ys H2 ->
 (J.stop i H2∧Q (.ref D) H2)∨(J.go i H2∧ys.length<sizeLine∧∃ N:V->Hp->Prop,(∀ v H',N v H'->H' D=some (.lst ys)∧∃ m',m'<m∧W (i+1) m' (ys++[v]) (upd H' D (.lst (ys++[v])))) ∧
  ∃ Nn:Hp->Prop,(∀ H',Nn H'->∃ m',m'<m∧W (i+1) m' ys H') ∧
  ∀ y H',J.yld i H2 y H'->tc (some y::σ) H' fun b H''=>if b=true then te (some y::σ) H'' N else Nn H'')
def Ag (wi:TI)(tc:TT)(te:TE):TE:=fun σ H Q=>wi σ H (eJ tc te σ Q)
section
variable {X:Cx}{N':List Str}{scope:Scope}{x:Str}{px:Pos}{elt iter:Expr}{cds:List Expr}{pos:Pos}{te:TE}{tc:TT}{wi:TI}
theorem qC (S:cI X.N N' X.env.scope scope x)(hc:X.calm=true)(ht:∀ cl C s H fp,PTL (bV X N' scope cl C s H fp) cds tc)(he:∀ cl C s H fp,PE (bV X N' scope cl C s H fp) elt te)
  {pins:List (Addr×Obj)} {σ:St} {H:Hp} {s:Shared} {Q:VK} {E:Value->Shared->Prop} {RR:Value->Addr->Result->Shared->Prop} {it:Addr} {fp:List Addr} {tn:Nat->Heap->Prop} {J:It}
  (I:Inv X pins σ H s) (T:pQ X.prog X.w X.K (.Name x px) J fp it tn) (st:tn 0 s.heap) (f2:∀ b∈fp,kI X pins H b)
  (hw:eJ tc te σ Q J H)
  (hRR:∀ D C s' H',Inv X pins σ H' s'->(∃ m,s'.heap.Ns C m)->C≠X.env.locals->(∀ y c,X.env.cells.lookup y=some c->c≠C)->H' C=none->X.s₀.heap.objs.size<=C->(∀ p∈X.pn++pins,p.1≠C)->Q (.ref D) H'->RR (.ref D) C (.ok .next) s') :
  ∃ cl,closureFor scope X.env=pure cl∧wpAny (model X.prog X.w) X.A (newList []) (fun acc s₃=>wpAny (model X.prog X.w) X.A (newFunctionEnv scope X.env.globals cl [] X.env.qual none .none (some X.env)) (fun cenv s₄ =>
   codeAny (model X.prog X.w) X.A (.compStart (.ListComp elt [⟨.Name x px,iter,cds,0⟩] scope pos) 0 (.ref it) acc { cenv with scope:=relabel scope X.env }) (RR acc cenv.locals) s₄) E s₃) E s:=by
 have hfree:∀ z∈scope.names,z.2 = .free->∃ c,X.env.cells.lookup z.1=some c:=fun z hz hk=>by
  rcases S.ok z hz hk with q | q
  ·exact I.ok.has z.1 (.inl q)
  ·exact I.ok.has z.1 (.inr q)
 refine⟨_,fC hfree,?_⟩;have clS:∀ y c,(cR X.env.cells scope.names []).lookup y=some c->X.env.cells.lookup y=some c:=fun y c=>iO scope.names [] hfree fun q=>by cases q
 generalize hcl:cR X.env.cells scope.names []=cl at clS;have clH:∀ y,scope.names.lookup y=some .free->∃ c,cl.lookup y=some c:=fun y hy=>by
  rw[<- hcl];exact mD scope.names [] (cT hy)
 refine wpAny_newObj_type (wpAny_newFunctionEnv S.cell (by intro y hy;simp at hy) (fun h₁ hns₁ hsb₁=>?_) S.kind);have I3:Inv X pins σ (upd H s.heap.objs.size (.lst [])) { s with heap:=s.heap.push { cls:=.type "list",data:=.seq ([]:List Value).toArray } }:=I.lnew (t':=s.toks) .nil (bi _)
 obtain⟨W,⟨m0,w0⟩,turn⟩:=hw s.heap.objs.size I.fresh
 dsimp only at hns₁ hsb₁ ⊢
 generalize hs3:({ s with heap:=s.heap.push { cls:=.type "list",data:=.seq ([]:List Value).toArray } }:Shared)=s3 at I3
 have hh3:s3.heap=s.heap.push { cls:=.type "list",data:=.seq ([]:List Value).toArray }:=by rw[<- hs3]
 have hsz3:s3.heap.objs.size=s.heap.objs.size+1:=by rw[hh3,Heap.size_push]
 rw[<- hh3] at hns₁ hsb₁ ⊢;have old:∀ b o,s3.heap.get? b=some o->h₁.get? b=some o:=fun b o e=>hsb₁.extBut b o (by have:=Heap.lt_size e;exact ay this) (Heap.get?_push_of_some _ e)
 have old0:∀ b o,s.heap.get? b=some o->h₁.get? b=some o:=fun b o e=>old b o (by rw[hh3];exact Heap.get?_push_of_some _ e)
 have CneL:s3.heap.objs.size≠X.env.locals:=fu I3.lt;have CneC:∀ y c,X.env.cells.lookup y=some c->c≠s3.heap.objs.size:=fun y c e z=>by
  obtain⟨v,q⟩:=I3.cell y c e
  have:=q.lt
  rw[z] at this;exact absurd this (dz _)
 have CneP:∀ p∈X.pn++pins,p.1≠s3.heap.objs.size:=fun p hp z=>by
  have:=Heap.lt_size (I3.pin p hp).1
  rw[z] at this;exact absurd this (dz _)
 have CfreeH:∀ b o,s3.heap.get? b=some o->b<s3.heap.objs.size:=fun b o e=>by have:=Heap.lt_size e;exact this
 have fpLt:∀ b∈fp,b<s3.heap.objs.size:=fun b hb=>by
  obtain⟨o,e,_⟩:=T.obj 0 s.heap st b hb;rw[hsz3];exact d6 (Heap.lt_size e)
 have fpD:∀ b∈fp,b≠s.heap.objs.size:=fun b hb=>by
  obtain⟨o,e,_⟩:=T.obj 0 s.heap st b hb;exact ay (Heap.lt_size e)
 have ok':(bV X N' scope cl s3.heap.objs.size s3 (upd H s.heap.objs.size (.lst [])) fp).Ok:=by
  refine⟨I3.ok.mod,?_,I3.ok.glob,I3.ok.blt,af _,fun y z c h1 h2=>I3.ok.inj y z c (clS y c h1) (clS z c h2),fun y hy=>?_,fun y c hf=>(by cases hf),I3.ok.hd,I3.ok.frames,.inl rfl,fun b hb=>⟨ay (fpLt b hb),fun y c e=>(f2 b hb).2.2.2.2.1 y c (clS y c e)⟩,
   fun b o e=>I3.bs b o e,a7 I3.ok.bsz I3.sz,fun b o e hb=>?_,fun b hb z=>?_,I3.stack,I3.stkFree⟩
  ·show (relabel scope X.env).kind = .function
   exact S.kind
  ·have hy':(relabel scope X.env).names.lookup y=some .cell∨(relabel scope X.env).names.lookup y=some .free:=hy
   rw[bE] at hy'
   cases q:scope.names.lookup y with
   | none=>rw[q] at hy';rcases hy' with z | z <;> cases z
   | some k =>
    have hm:=cT q
    cases k with
    | free=>exact clH y q
    | cell=>exact absurd rfl (S.cell _ hm)
    | «local» => rw[q] at hy';rcases hy' with z | z <;> simp at z
    | globalExplicit=>rw[q] at hy';rcases hy' with z | z <;> simp at z
    | globalImplicit=>rw[q] at hy';rcases hy' with z | z <;> simp at z
  ·rcases (f2 b hb).2.2.2.1 with z | z
   ·exact I.ok.noex b o e z
   ·exact absurd (bj (Heap.lt_size e) (a7 I.ok.bsz z)) (dz _)
  ·rcases au.mp (I3.stkSub b z) with q | q
   ·exact (f2 b hb).2.1 q
   ·exact (f2 b hb).2.2.1 q
 have fpOk':∀ {H':Hp},(∀ b∈fp,H' b=none)->∀ b∈fp,kI (bV X N' scope cl s3.heap.objs.size s3 (upd H s.heap.objs.size (.lst [])) fp) pins H' b:=fun hn b hb =>
  ⟨hn b hb,ay (fpLt b hb),fun z=>by
   rcases au.mp (I3.stkSub b z) with q | q
   ·exact (f2 b hb).2.1 q
   ·exact (f2 b hb).2.2.1 q,.inl hb,fun y c e=>(f2 b hb).2.2.2.2.1 y c (clS y c e),(f2 b hb).2.2.2.2.2⟩
 have I4:Inv (bV X N' scope cl s3.heap.objs.size s3 (upd H s.heap.objs.size (.lst [])) fp) pins (none::σ) (upd H s.heap.objs.size (.lst [])) { s3 with heap:=h₁,toks:=s3.toks+([]:List (Str×Value)).length }:=by
  refine⟨ok',rfl,I3.bare,Un.kept old,⟨_,hns₁,fun i y v e1 e2 vis=>?_⟩,fun y c e=>?_,?_,fun y c e=>I3.freeC y c (clS y c e),fun p hp=>?_,I3.hok.kept old,?_⟩
  ·cases i with
   | zero=>cases e2
   | succ i =>
    have e2':σ[i]?=some (some v):=by simpa using e2
    have hi:i<X.N.length:=by rw[<- I3.len];exact (al.mp e2').1
    have vis':(relabel scope X.env).names.lookup y=some .local∨(relabel scope X.env).names.lookup y=some .cell∨(relabel scope X.env).names.lookup y=some .free:=vis;have e1':N'[i+1]?=some y:=e1;rcases S.sub i hi with q | q
    ·rw[e1'] at q
     have hy:X.N[i]?=some y:=q.symm;have hmem:y∈N'.tail:=by
      rw[kc];exact⟨i,by rw[js];exact e1'⟩
     have hfr:scope.names.lookup y=some .free:=by
      rw[bE] at vis'
      cases q2:scope.names.lookup y with
      | none=>rw[q2] at vis';rcases vis' with z | z | z <;> cases z
      | some k =>
       cases k with
       | free=>rfl
       | cell=>exact absurd rfl (S.cell _ (cT q2))
       | «local» => exact absurd q2 (S.nol y hmem)
       | globalExplicit=>rw[q2] at vis';rcases vis' with z | z | z <;> simp at z
       | globalImplicit=>rw[q2] at vis';rcases vis' with z | z | z <;> simp at z
     have hok:=S.ok (y,.free) (cT hfr) rfl;obtain⟨m,hn,hl⟩:=I3.loc;have visX:Vis X.env.scope y:=by
      rcases hok with z | z
      ·exact .inr (.inl z)
      ·exact .inr (.inr z)
     obtain⟨u,r,l⟩:=hl i y v hy e2' visX;refine⟨u,r,.inr ⟨?_,?_⟩⟩
     ·show (relabel scope X.env).names.lookup y=some .cell∨(relabel scope X.env).names.lookup y=some .free
      rw[bE,hfr,gk];by_cases hcnd:(NameKind.free==NameKind.free&&X.env.scope.kind == .function&&X.env.kindOf y==some .cell)=true
      ·left
       rw[if_pos hcnd]
      ·right
       rw[if_neg hcnd]
     ·rcases l with ⟨k,_⟩ | ⟨k,c,e,z⟩
      ·have k':X.env.scope.names.lookup y=some .local:=k
       have hok':X.env.scope.names.lookup y=some .cell∨X.env.scope.names.lookup y=some .free:=hok;rw[k'] at hok';rcases hok' with z | z <;> cases z
      ·obtain⟨c',e'⟩:=clH y hfr
       have e3:=clS y c' e';rw[e] at e3;cases e3;obtain⟨o,ho,hd⟩:=z;exact⟨c,e',o,old c o ho,hd⟩
    ·rw[e1'] at q
     have q:scope.names.lookup y=none:=a5 q;rw[bE,q] at vis';rcases vis' with z | z | z <;> cases z
  ·obtain⟨v,o,ho,hd⟩:=I3.cell y c (clS y c e)
   exact⟨v,o,old c o ho,hd⟩
  ·show upd H s.heap.objs.size (.lst []) s3.heap.objs.size=none
   exact I3.hok.fresh (af _)
  ·obtain⟨e,n,ne,nf,d⟩:=I3.pin p hp
   refine⟨old _ _ e,n,CneP p hp,fun z=>?_,d⟩;rcases au.mp (I3.stkSub p.1 z) with q | q
   ·exact ne q
   ·exact nf q
  ·show (none::σ).length=N'.length
   rw[S.len,aw,I3.len]
 have st4:tn 0 h₁:=T.keep 0 s.heap h₁ st fun b _ o e=>old0 b o e
 have loop:∀ s₄:Shared,s₄ = { s3 with heap:=h₁,toks:=s3.toks+([]:List (Str×Value)).length } ->
   codeAny (model X.prog X.w) X.A (.compLoop (.ListComp elt [⟨.Name x px,iter,cds,0⟩] scope pos) 0 (.ref it) (.ref s.heap.objs.size) (compEnvC scope cl s3.heap.objs.size X.env)) (RR (.ref s.heap.objs.size) s3.heap.objs.size) s₄:=by
  rintro s₄ rfl;refine fS (fun n s'=>∃ i v0 ys H',Inv (bV X N' scope cl s3.heap.objs.size s3 (upd H s.heap.objs.size (.lst [])) fp) pins (v0::σ) H' s'∧tn i s'.heap∧(∀ b∈fp,H' b=none)∧W i n ys H') ?_ m0
   ⟨0,none,[],_,I4,st4,fun b hb=>by rw[aH (fpD b hb)];exact (f2 b hb).1,w0⟩
  rintro n s5 ⟨i,v0,ys,H5,I5,st5,fr5,w5⟩;rcases turn i n ys H5 w5 with ⟨stop,qn⟩ | ⟨go,hz,N,hN,Nn,hNn,step⟩
  ·refine thn (T.done (bV X N' scope cl s3.heap.objs.size s3 (upd H s.heap.objs.size (.lst [])) fp) rfl rfl rfl hc i pins s5 (v0::σ) H5 (fun _ _=>False) I5 (fpOk' fr5) st5 stop) fun r s6 ⟨hr,I6⟩=>?_
   subst hr;have hch:∀ b∈fp,(b∈X.ex∨X.s₀.heap.objs.size<=b)∧b≠X.env.locals∧(∀ x c,X.env.cells.lookup x=some c->c≠b)∧∀ p∈X.pn++pins,p.1≠b:=fun b hb =>
    ⟨(f2 b hb).2.2.2.1,(f2 b hb).2.1,(f2 b hb).2.2.2.2.1,(f2 b hb).2.2.2.2.2⟩
   have I7:Inv X pins σ H5 s6:=I3.call' (ch:=fp) I6.os I6.base I6.hok I6.bare hch;obtain⟨m,hm,_⟩:=I6.loc;exact hRR s.heap.objs.size s3.heap.objs.size s6 H5 I7 ⟨m,hm⟩ CneL CneC I6.free (a7 I3.sz (af _)) CneP qn
  ·refine thn (T.item (bV X N' scope cl s3.heap.objs.size s3 (upd H s.heap.objs.size (.lst [])) fp) rfl rfl rfl hc i pins s5 (v0::σ) H5 (fun _ _=>False) I5 (fpOk' fr5) st5 go) fun r s6 ⟨u,hr,h6⟩=>?_
   subst hr;refine thn h6 fun _ s7 ⟨y,H7,I7,r7,y7,st7,fr7⟩=>?_
   have I7':=I7.pinned (fpOk' fr7) (T.obj _ _ st7);refine wpAny_assign_Name (mG (i:=0) (v:=y) I7' S.nd S.hd (.inl (lookup_relabel_local S.var)) r7 (fun s8 I8=>?_) (.inr (lookup_relabel_local S.var)));have I8':Inv (bV X N' scope cl s3.heap.objs.size s3 (upd H s.heap.objs.size (.lst [])) fp) (pins++jZ fp s7.heap) (some y::σ) H7 s8:=I8;refine thn (ht cl s3.heap.objs.size s3 (upd H s.heap.objs.size (.lst [])) fp _ s8 (some y::σ) H7 (fun b H''=>if b=true then te (some y::σ) H'' N else Nn H'') I8' (step y H7 y7)) fun okb s8 ⟨H8,I8,q8⟩=>?_
   cases okb with
   | false =>
    have q8':Nn H8:=by simpa using q8
    obtain⟨m',hm,w9⟩:=hNn H8 q8';refine⟨m',hm,i+1,some y,ys,_,I8.unpinned,T.keep _ _ _ st7 fun b hb o e=>(I8.pin (b,o) (av _ (av _ (cO hb e)))).1,fun b hb=>?_,w9⟩;obtain⟨o,e,d⟩:=T.obj _ _ st7 b hb;exact (I8.pin (b,o) (av _ (av _ (cO hb e)))).2.1
   | true =>
    refine thn (he cl s3.heap.objs.size s3 (upd H s.heap.objs.size (.lst [])) fp _ s8 (some y::σ) H8 N I8 (by simpa using q8)) fun w s9 ⟨v,H9,I9,r9,q9⟩=>?_
    obtain⟨hD9,m',hm,w9⟩:=hN v H9 q9;refine thn (cL _ s9 (some y::σ) H9 (.ref s.heap.objs.size) [v] (.ref s.heap.objs.size) [w] (fun z H10=>z = .non∧H10=upd H9 s.heap.objs.size (.lst (ys++[v]))) I9 rfl (.cons r9 .nil) ⟨s.heap.objs.size,ys,v,rfl,rfl,hD9,hz,rfl,rfl⟩) fun _ s10 ⟨z,H10,I10,_,ez,e10⟩=>?_
    subst e10;refine⟨m',hm,i+1,some y,ys++[v],_,I10.unpinned,T.keep _ _ _ st7 fun b hb o e=>(I10.pin (b,o) (av _ (av _ (cO hb e)))).1,fun b hb=>?_,w9⟩;obtain⟨o,e,d⟩:=T.obj _ _ st7 b hb;exact (I10.pin (b,o) (av _ (av _ (cO hb e)))).2.1
 exact codeAny_compStart_list (loop _ (by rw[<- hs3])) (T.self X.A 0 _ _ _ st4 (loop _ (by rw[<- hs3])))
theorem iZ.toF {te:TE}{σ:St}{Q:VK}{J:It}{H:Hp}(hw:iZ te σ Q J H):eJ (fun _ H k=>k true H) te σ Q J H:=fun D hD=>by
 obtain⟨W,h0,hW⟩:=hw D hD;refine⟨W,h0,fun i m ys H2 hw2=>?_⟩;rcases hW i m ys H2 hw2 with g | ⟨g1,g2,N,g3,g4⟩
 ·exact .inl g
 ·exact .inr ⟨g1,g2,N,g3,fun _=>False,fun _ z=>z.elim,fun y H' hy=>Jr (g4 y H' hy)⟩
theorem xQ {at':St->VK->It->Hp->Prop}(S:cI X.N N' X.env.scope scope x)(hc:X.calm=true)(hi:PI X (.Name x px) iter wi)(ht:∀ cl C s H fp,PTL (bV X N' scope cl C s H fp) cds tc)(he:∀ cl C s H fp,PE (bV X N' scope cl C s H fp) elt te)(cv:∀ σ Q J H,at' σ Q J H->eJ tc te σ Q J H)
  (hs:∀ x,foldedSetIterable iter X.env x=pure x:=by intro _;rfl):PE X (.ListComp elt [⟨.Name x px,iter,cds,0⟩] scope pos) (fun σ H Q=>wi σ H (at' σ Q)):=by
 intro pins s σ H Q I h;rw[eval_ListComp];have hfree:∀ z∈scope.names,z.2 = .free->∃ c,X.env.cells.lookup z.1=some c:=fun z hz hk=>by
  rcases S.ok z hz hk with q | q
  ·exact I.ok.has z.1 (.inl q)
  ·exact I.ok.has z.1 (.inr q)
 refine wpAny_comprehension_free (use:=none) rfl hs (fC hfree) S.kind S.names (thn (hi pins s σ H _ I h) fun xv s1 h1=>thn h1 fun itv s2 h2=>?_);obtain⟨it,fp,tn,J,H2,e,I2,T,st2,f2,hw⟩:=h2;subst e;obtain⟨cl,hcl,hrun⟩:=qC (tc:=tc) (cds:=cds) (elt:=elt) (iter:=iter) (pos:=pos) (px:=px) (E:=X.xe) (RR:=fun acc C=>compPost (model X.prog X.w) X.A X.xe none (EP X pins σ Q) acc C) S hc ht he I2 T st2 f2 (cv _ _ _ _ hw) (fun D C s' H' I' ⟨m,hm⟩ n1 n2 n3 n4 n5 q =>
  ⟨m,hm,fun h' hsb=>⟨.ref D,H',I'.turned (it:=C) (t':=s'.toks) (fun b o hb e=>(hsb.2 b hb).trans e) n3 n1 (.inr n4) n2 n5,rfl,q⟩⟩)
 have ecl:(pure (cR X.env.cells scope.names []):Sem (List (Str×Addr)))=pure cl:=(fC hfree).symm.trans hcl;have ecl':cR X.env.cells scope.names []=cl:=by
  injection ecl
 rw[ecl'];exact hrun
theorem oF {at':St->VK->It->Hp->Prop}{i:Nat}{y:Str}{py spos:Pos}(S:cI X.N N' X.env.scope scope x)(hc:X.calm=true)(hi:PI X (.Name x px) iter wi)(ht:∀ cl C s H fp,PTL (bV X N' scope cl C s H fp) cds tc)(he:∀ cl C s H fp,PE (bV X N' scope cl C s H fp) elt te)(cv:∀ σ Q J H,at' σ Q J H->eJ tc te σ Q J H)
  (hN:X.N.Nodup) (hy:X.N[i]?=some y) (hyl:X.env.scope.names.lookup y=some .local)
  (hsw:swapsWith (.ListComp elt [⟨.Name x px,iter,cds,0⟩] scope pos) (some (.Name y py)) spos.line X.env=pure true:=by rfl)
  (hs:∀ x,foldedSetIterable iter X.env x=pure x:=by intro _;rfl):PS X (.Assign [.Name y py] (.ListComp elt [⟨.Name x px,iter,cds,0⟩] scope pos) spos) (Fo (fun σ H Q=>wi σ H (at' σ Q)) (sX i)):=by
 intro pins s σ H D0 I h;have hfree:∀ z∈scope.names,z.2 = .free->∃ c,X.env.cells.lookup z.1=some c:=fun z hz hk=>by
  rcases S.ok z hz hk with q | q
  ·exact I.ok.has z.1 (.inl q)
  ·exact I.ok.has z.1 (.inr q)
 rw[exec_Assign_Name_used _ _ _ _ hsw];refine wpAny_bind (wpAny_standAt (wpAny_bind ?_));show wpAny _ X.A (do let _ <- comprehension (.ListComp elt [⟨.Name x px,iter,cds,0⟩] scope pos) scope X.env _ (newList []) false (eval iter X.env) (some (assign (.Name y py) X.env))) _ _ s;refine wpAny_bind (wpAny_mono (wpAny_comprehension_free (use:=some (assign (.Name y py) X.env)) (Q:=fun _ s'=>SP X pins D0 .next s') rfl hs (fC hfree) S.kind S.names
  (thn (hi pins s σ H _ I h) fun xv s1 h1=>thn h1 fun itv s2 h2=>?_)) (fun _ s' hq=>wpAny_pure (wpAny_pure hq)) fun _ _ e=>e)
 obtain⟨it,fp,tn,J,H2,e,I2,T,st2,f2,hw⟩:=h2;subst e;obtain⟨cl,hcl,hrun⟩:=qC (tc:=tc) (cds:=cds) (elt:=elt) (iter:=iter) (pos:=pos) (px:=px) (E:=X.xe) (Q:=fun x H1=>sX i x σ H1 D0.nx) (RR:=fun acc C=>compPost (model X.prog X.w) X.A X.xe (some (assign (.Name y py) X.env)) (fun _ s'=>SP X pins D0 .next s') acc C) S hc ht he I2 T st2 f2 (cv _ _ _ _ hw) (fun D C s' H' I' ⟨m,hm⟩ n1 n2 n3 n4 n5 q=>by
  show wpAny _ X.A (assign (.Name y py) X.env (.ref D)) _ _ _;refine wpAny_assign_Name (sQ (i:=i) (v:=.ref D) I' hN hy (.inl hyl) rfl (fun s'' I'' ⟨a,hsa,hwa⟩=>?_) (.inr hyl));have haC:C≠a:=by
   rcases hwa with z | z
   ·rw[z];exact n1
   ·intro z2
    exact n2 y a z z2.symm
  refine⟨m,hm.sameBut hsa haC,fun h' hsb=>?_⟩;exact⟨_,H',I''.turned (it:=C) (t':=s''.toks) (fun b o hb e=>(hsb.2 b hb).trans e) n3 n1 (.inr n4) n2 n5,q⟩)
 have ecl:(pure (cR X.env.cells scope.names []):Sem (List (Str×Addr)))=pure cl:=(fC hfree).symm.trans hcl;have ecl':cR X.env.cells scope.names []=cl:=by
  injection ecl
 rw[ecl'];exact hrun
theorem dU (S:cI X.N N' X.env.scope scope x)(hc:X.calm=true)(hi:PI X (.Name x px) iter wi)(he:∀ cl C s H fp,PE (bV X N' scope cl C s H fp) elt te)
  (hs:∀ x,foldedSetIterable iter X.env x=pure x:=by intro _;rfl):PE X (.ListComp elt [⟨.Name x px,iter,[],0⟩] scope pos) (Ni wi te) :=
 xQ (at':=fun σ Q=>iZ te σ Q) S hc hi (fun _ _ _ _ _=>Bi) he (fun _ _ _ _ h=>h.toF) hs
theorem yO {i:Nat}{y:Str}{py spos:Pos}(S:cI X.N N' X.env.scope scope x)(hc:X.calm=true)(hi:PI X (.Name x px) iter wi)(he:∀ cl C s H fp,PE (bV X N' scope cl C s H fp) elt te)
  (hN:X.N.Nodup) (hy:X.N[i]?=some y) (hyl:X.env.scope.names.lookup y=some .local)
  (hsw:swapsWith (.ListComp elt [⟨.Name x px,iter,[],0⟩] scope pos) (some (.Name y py)) spos.line X.env=pure true:=by rfl)
  (hs:∀ x,foldedSetIterable iter X.env x=pure x:=by intro _;rfl):PS X (.Assign [.Name y py] (.ListComp elt [⟨.Name x px,iter,[],0⟩] scope pos) spos) (Fo (Ni wi te) (sX i)) :=
 oF (at':=fun σ Q=>iZ te σ Q) S hc hi (fun _ _ _ _ _=>Bi) he (fun _ _ _ _ h=>h.toF) hN hy hyl hsw hs
end
structure Cal (P:Program)(w:World)(K:ac)(mg:Str->Option Value)(base:Heap)(CX:CXT)(x:Str)(k:Nat)(ps:List Str)(sp:Sp):Prop where
 ex:∃ (f:Addr) (fd:FuncData),cN P w K mg base CX k f fd ps sp∧mg x=some (.ref f)∧ff K (.ref f)=true∧lI K fd ps []
section
variable {X:Cx}
theorem aU {CX:CXT}{x:Str}{j k:Nat}{ps:List Str}{sp:Sp}{E:XK}{e:Expr}{es:List Expr}{t:TA}{p pos:Pos}(c:Cal X.prog X.w X.K X.mg X.base CX x j ps sp)(hr:fI k X.A)(hx:jY CX X E)(ha:PA X (e::es) t)
  (hjk:j<=k:=by decide) (hg:Gl X x:=by rfl) (hdb:(x==("__debug__" : Str))=false:=by decide) (he:starEach (e::es) X.env=(false,eval e X.env)::starEach es X.env:=by rfl) (hpl:(backTo pos (starEach es X.env)).any (·.1)=false:=by rfl) :
  PE X (.Call (.Name x p) (e::es) [] pos) (Na sp [] E t):=by
 obtain⟨f,fd,F,hm,hk,hb⟩:=c.ex;exact Mh F (hr.mono hjk) hg hm hk hb .nil hx ha hdb he hpl
theorem bW (l:List Nat){x:Str}{j pos}(h:x=tx l):PE X (.Constant (.str x) j pos) (tC (T l)):=by
 subst h;exact Oa
theorem dY:dX X (.builtin "len") (fun xs H Q=>∃ (l:List Nat),xs=[T l]∧l.length<=sizeLine∧Q (.int (l.length:Nat)) H):=by
 intro pins s σ H xs us Q I r h;obtain⟨l,e,hz,q⟩:=h;exact vG pins s σ H xs us Q I r ⟨tx l,e,by rw[fQ];exact hz,by rw[fQ];exact q⟩
theorem Sm:IxR X (fun x y H Q=>∃ (l:List Nat),x=T l∧∃ (i:Int),y = .int i∧l.length<=sizeLine∧∃ c,atI l i=some c∧Q (T [c]) H):=by
 intro value slice pins s σ H x y v u Q I rx ry h hs;obtain⟨l,e1,i,e2,hz,c,hc,q⟩:=h;exact Pu value slice pins s σ H x y v u Q I rx ry ⟨tx l,i,c,e1,e2,by rw[fQ];exact hz,by rw[cZ];exact hc,q⟩ hs
theorem kH:dX X (.builtin "isinstance") (fun xs H Q=>∃ (x:V) (c:String) (t:Value) (b:Bool),xs=[x,.ty c]∧nR X.K H x t∧lw X.K t (.type c)=some b∧Q (.bl b) H):=by
 intro pins s σ H xs us Q I r h;obtain⟨x,c,t,b,rfl,ty,e,q⟩:=h;obtain⟨u,w',rfl,ru,rw'⟩:=Sk r;cases (show w'=Value.type c from rw');exact Cn I ru ty e fun tk=>⟨.bl b,H,I.tok tk,rfl,q⟩
theorem pZ {K:ac}(T:String):lw K (.type T) (.type T)=some true:=by
 unfold lw;rw[if_pos (by simp)]
theorem cY:OpR X (binaryOp .Add) (fun x y H Q=>∃ (l b:Addr) (xs zs:List V),x = .ref l∧y = .ref b∧SqL X.K H l xs∧SqL X.K H b zs∧xs.length+zs.length<=sizeLine∧∀ p,H p=none->Q (.ref p) (upd H p (.lst (xs++zs)))):=by
 intro pins s σ H x y v u Q I rx ry h;obtain⟨l,b,xs,zs,rfl,rfl,hH,hB,hz,q⟩:=h;cases rx;cases ry;obtain⟨its,r,⟨⟨cls,dd,data,sl⟩,n,ho,hc,hdd,hd⟩,_⟩:=I.list hH;obtain⟨its2,r2,⟨⟨cls2,dd2,data2,sl2⟩,n2,ho2,hc2,hdd2,hd2⟩,_⟩:=I.list hB;simp only at hc hd hc2 hd2;subst hc hd hc2 hd2;have e:its.toArray++its2.toArray=(its++its2).toArray:=by simp
 refine concat_meets ⟨_,ho,rfl⟩ ⟨_,ho2,rfl⟩ noFill_list_add seq_list_add PySem.F.slot_list_add PySem.F.entry_list_add (PySem.F.args_list_add_2 _ _) (list_addW l b its.toArray its2.toArray n n2 dd dd2 sl sl2 (by rw[ao,ao,<- r.length,<- r2.length];exact hz)) ⟨ho,ho2,?_⟩;rw[e];exact⟨.ref _,_,I.lnew (t':=s.toks) (r.append r2) (by rw[ag];exact hz),rfl,q _ I.fresh⟩
theorem iI (ls:List (List Nat)):(ls.map T).all gP=true:=by
 rw[qp,dh];intro l _;rfl
theorem zG {ls ms:List (List Nat)}{us ws:List Value}(r:bN (ls.map T) us)(r':bN (ms.map T) ws){A:Around}{s:Shared}{j:Nat}{u w:Value}(hu:us[j]?=some u)(hw:ws[j]?=some w):SeqAt.EqAt A s u w (decide (ls[j]?=ms[j]?)):=by
 have h1:j<ls.length:=by have:=r.length;rw[aR] at this;rw[this];exact (al.mp hu).1
 have h2:j<ms.length:=by have:=r'.length;rw[aR] at this;rw[this];exact (al.mp hw).1
 obtain⟨u',e1,q1⟩:=r.get (i:=j) (x:=T ls[j]) (by rw[aj,aa h1];rfl);obtain⟨w',e2,q2⟩:=r'.get (i:=j) (x:=T ms[j]) (by rw[aj,aa h2];rfl);rw[hu] at e1;cases e1;rw[hw] at e2;cases e2;have e:=zR (A:=A) (s:=s) q1 q2 rfl rfl;have ee:eqV (T ls[j]) (T ms[j])=decide (ls[j]?=ms[j]?):=by
  show (tx ls[j]==tx ms[j])=_;rw[ci,beq_iff_eq,decide_eq_true_iff,aa h1,aa h2];exact⟨fun h=>by rw[eF h],fun h=>by rw[a5 h]⟩
 rw[ee] at e;exact e
theorem mR {ls ms:List (List Nat)}(h:ls.length=ms.length):(cu ls.length).all (fun j=>decide (ls[j]?=ms[j]?))=decide (ls=ms):=by
 rw[ci,dh,decide_eq_true_iff];constructor
 ·intro g
  apply j4;intro i;by_cases hi:i<ls.length
  ·exact of_decide_eq_true (g i (de.mpr hi))
  ·rw[cp (by omega),cp (by omega)]
 ·intro g j _
  rw[g];exact decide_eq_true rfl
theorem Al:OpR X (compareOp .IsNot) (fun x y H Q=>∃ a,x = .bl a∧∃ b,y = .bl b∧Q (.bl (!decide (a=b))) H):=by
 intro pins s σ H x y v u Q I rx ry h;obtain⟨a,rfl,b,rfl,q⟩:=h;cases rx;cases ry;refine wpAny_pure (a:=Value.bool (!(Value.bool a==Value.bool b))) (bS I q ?_);cases a <;> cases b <;> rfl
end
structure Fly (P:Program)(w:World)(outer:List Env)(H:Hp)(s:Shared)(a:Addr)(cls:Value)(H':Hp)(s':Shared):Prop where
 os:s'.os=s.os
 bare:AllBare s'.gens
 ex:∃ (B:Heap) (t:Addr),Heap.FlyingW B outer a cls (.ref t) s'.heap∧HOk P w H' B∧(∀ b o,s.heap.get? b=some o->H b=none->b∉frs outer->B.get? b=some o) ∧
  ∀ b o,s.heap.get? b=some o->b∉frs outer->∃ o',B.get? b=some o'
 slot:∀ b o,s.heap.get? b=some o->H b=none->b∈frs outer->∃ sl,s'.heap.get? b=some { o with slots:=sl }
 free:∀ b o,s.heap.get? b=some o->H b=none->H' b=none
 tups:∀ b xs,H b=some (.tup xs)->H' b=some (.tup xs)
 frzs:∀ b o u,H b=some (.frz o u)->H' b=some (.frz o u)
 tbls:∀ b ps,H b=some (.tbl ps)->∃ more,H' b=some (.tbl (ps++more))
def CX1 (P:Program)(w:World):CXT:=fun outer H s E e s'=>∃ a cls H',e = .ref a∧Fly P w outer H s a cls H' s'∧E cls none H'
section
variable {X:Cx}{pins:List (Addr×Obj)}{σ:St}{H H':Hp}{s s':Shared}{a:Addr}{cls:Value}{E:Value->Shared->Prop}
structure Own (X:Cx):Prop where
 stk:X.stack=X.env::X.outer
 fr:X.env.frame=some X.env.locals
 ex:X.ex=[]
theorem Own.frs (O:Own X){b:Addr}:b∈frs X.stack↔b=X.env.locals∨b∈frs X.outer:=by
 unfold L2.frs;rw[O.stk,gl,O.fr];exact au
theorem Inv.oldNe (I:Inv X pins σ H s){b:Addr}{o:Obj}(e:X.s₀.heap.get? b=some o):b≠X.env.locals:=ay (bj (Heap.lt_size e) I.ok.above)
theorem Inv.hidHok (I:Inv X pins σ H s):HOk X.prog X.w H (rf s.heap (L2.frs X.stack)):=fun b u e =>
 (I.hok b u e).stay (fun c v hc q=>jj _ q fun hm=>by
  have n:=I.stkFree c hm;rcases hc with z | z
  ·rw[z,e] at n
   cases n
  ·rw[z] at n
   cases n) (fun _ q=>q) fun _ _ q=>q
theorem Fly.raised {args:List Value}{h:Heap}(I:Inv X pins σ H s)(O:Own X)(hx:Heap.MadeExcOf s.heap h a cls args) :
  wpAny (model X.prog X.w) X.A (leaving X.env (.ref a)) (fun _ s''=>Fly X.prog X.w X.outer X.H₀ X.s₀ a cls H s'') E { s with heap:=h }:=by
 have hst:=I.stack;have hin:∀ env∈X.stack,∀ b,env.frame=some b->b∈L2.frs X.stack:=fun env he b hb=>lu.mpr ⟨env,he,hb⟩
 have hl:=PySem.W.funFrames_hide hst hin;rw[O.stk] at hl;have hfr:=I.ok.frames;rw[O.stk] at hfr;have noEx:∀ b,b∉X.ex:=fun b z=>by
  rw[O.ex] at z;cases z
 refine wpAny_leaves_madeW (s:={ s with heap:=h }) hfr O.fr (fun b o q=>pj _ q) hl hx fun h' t x1 x2 x3 x4=>?_
 have notIn:∀ b o,X.s₀.heap.get? b=some o->b∉L2.frs X.outer->b∉L2.frs (X.env::X.outer):=fun b o e nb z=>by
  rw[<- O.stk] at z;rcases O.frs.mp z with q | q
  ·exact I.oldNe e q
  ·exact nb q
 have hokB:=I.hidHok;rw[O.stk] at hokB;refine⟨I.os,I.bare,⟨_,t,x1,hokB,fun b o e n nb=>?_,fun b o e nb=>?_⟩,fun b o e n hb=>?_,fun b o e n=>I.base.free b o e n (noEx b),I.base.tups,I.base.frzs,I.base.tbls⟩
 ·exact jj _ (I.base.keep b o e n nb (noEx b)) (notIn b o e nb)
 ·obtain⟨o',e'⟩:=I.base.there b o e (noEx b)
  exact⟨o',jj _ e' (notIn b o e nb)⟩
 ·obtain⟨sl,e1⟩:=I.base.slot b o e n hb (noEx b)
  obtain⟨_,o2,e2,hd⟩:=I.funs.mem hb;rw[e1] at e2;cases e2;obtain⟨sl2,e3⟩:=x4 b _ (hx.keeps b _ e1) hd;exact⟨sl2,e3⟩
theorem Fly.on (I:Inv X pins σ H s)(O:Own X)(Y:Fly X.prog X.w X.stack H s a cls H' s') :
  wpAny (model X.prog X.w) X.A (leaving X.env (.ref a)) (fun _ s''=>Fly X.prog X.w X.outer X.H₀ X.s₀ a cls H' s'') E s':=by
 obtain⟨B,t,hfl,hokB,kp,th⟩:=Y.ex;have hfr:=I.ok.frames;rw[O.stk] at hfr hfl;have noEx:∀ b,b∉X.ex:=fun b z=>by
  rw[O.ex] at z;cases z
 have notIn:∀ b o,X.s₀.heap.get? b=some o->b∉L2.frs X.outer->b∉L2.frs X.stack:=fun b o e nb z=>by
  rcases O.frs.mp z with q | q
  ·exact I.oldNe e q
  ·exact nb q
 refine wpAny_leaves_onW hfr O.fr hfl fun h' x1 x2=>?_
 refine⟨Y.os.trans I.os,Y.bare,⟨B,t,x1,hokB,fun b o e n nb=>kp b o (I.base.keep b o e n nb (noEx b)) (I.base.free b o e n (noEx b)) (notIn b o e nb),fun b o e nb=>?_⟩,fun b o e n hb=>?_,fun b o e n=>?_,
  fun b xs q=>Y.tups b xs (I.base.tups b xs q),fun b o u q=>Y.frzs b o u (I.base.frzs b o u q),fun b ps q=>?_⟩
 ·obtain⟨o',e'⟩:=I.base.there b o e (noEx b)
  exact th b o' e' (notIn b o e nb)
 ·obtain⟨sl,e1⟩:=I.base.slot b o e n hb (noEx b)
  obtain⟨_,o2,e2,hd⟩:=I.funs.mem hb;rw[e1] at e2;cases e2;obtain⟨sl2,e3⟩:=Y.slot b _ e1 (I.base.free b o e n (noEx b)) (O.frs.mpr (.inr hb));obtain⟨sl3,e4⟩:=x2 b _ e3 hd;exact⟨sl3,e4⟩
 ·obtain⟨o',e'⟩:=I.base.there b o e (noEx b)
  exact Y.free b o' e' (I.base.free b o e n (noEx b))
 ·obtain⟨m1,e1⟩:=I.base.tbls b ps q
  obtain⟨m2,e2⟩:=Y.tbls b _ e1;exact⟨m1++m2,by rw[e2,lr]⟩
end
abbrev Ck:List Value:=[.type "ValueError",.type "Exception",.type "BaseException",.type "object"]
structure Exc (K:ac)(mg:Str->Option Value)(x:Str)(C:Addr):Prop where
 mg:mg x=some (.ref C)
 is:jn K C Ck "ValueError.__new__" = true
theorem Exc.own {K:ac}{mg:Str->Option Value}{x:Str}{C:Addr}{h:Heap}(c:Exc K mg x C)(X:K.In h):OwnCls x C Ck "ValueError.__new__" mg h:=by
 refine⟨c.mg,?_⟩;have q:=c.is;unfold jn at q;split at q
 ·rename_i dd cd sl ho
  split at q
  ·rename_i C' bm k0 k1 k2 k3 n k5 hm hs
   simp only [beq_iff_eq,Bool.not_eq_true',dg] at q;obtain⟨⟨⟨⟨⟨g1,g2⟩,g3⟩,g4⟩,g5⟩,g6⟩:=q;subst g1 g2;obtain⟨nm,bs,mro,ns,qn,hd,sn,sub,ab,col,del⟩:=cd;have hsl:sl = #[k0,k1,k2,k3,some (.builtin "ValueError.__new__"),k5]:=by
    cases sl with
    | mk l =>
     have hs':l=_:=hs;rw[hs']
   have hm':mro=_:=hm;have g3':del=false:=g3;subst hsl hm' g3';refine⟨bm,ns,nm,qn,bs,hd,sn,sub,ab,col,dd,k0,k1,k2,k3,k5,h.nsMap ns,X _ _ ho,?_,?_,?_⟩
   ·exact .of_isNs (PySem.W.isNs_of_in X g5)
   ·exact PySem.W.nsMap_none_of_in X g5 g6
   ·exact PySem.W.tail_of_in X g4
  ·cases q
 ·cases q
def Pn (E:Value->Hp->Prop)(C:Addr)(t:TA):TS:=fun _ σ H=>t σ H fun vs H1=>vs.length<=sizeLine∧E (.ref C) H1
theorem eI {x:Str}{C:Addr}{e₀:Expr}{rest:List Expr}{np cpos pos:Pos}{t:TA}{E:Value->Hp->Prop}(c:Exc X.K X.mg x C)(hc:X.calm=true)
  (hE:∀ (pins:List (Addr×Obj)) (σ:St) (H:Hp) (s:Shared) (h:Heap) (a:Addr) (args:List Value),Inv X pins σ H s->Heap.MadeExcOf s.heap h a (.ref C) args->E (.ref C) H->X.xe (.ref a) { s with heap:=h })
  (ha:PA X (e₀::rest) t) (hg:Gl X x:=by rfl) (hd:(x==("__debug__" : Str))=false:=by decide)
  (he:starEach (e₀::rest) X.env=(false,eval e₀ X.env)::starEach rest X.env:=by rfl) (hpl:(backTo cpos (starEach rest X.env)).any (·.1)=false:=by rfl) :
  PS X (.Raise (some (.Call (.Name x np) (e₀::rest) [] cpos)) none pos) (Pn E C t):=by
 intro pins s σ H D I h;have O:=c.own I.mod.kin;obtain⟨tl,N,nm,q,bs,hdct,sn,sub,ab,col,dd,k0,k1,k2,k3,k5,mN,hC,hN,hni,T⟩:=O.obj;refine wpAny_Raise_call_subT (C:=C) (nm:=nm) (q:=q) (N:=N) (bs:=bs) (bm:=tl) (hdct:=hdct) (sn:=sn) (sub:=sub) (ab:=ab) (col:=col) (dd:=dd) (k0:=k0) (k1:=k1) (k2:=k2) (k3:=k3) (k5:=k5) PySem.F.excBase_ValueError (mN:=mN)
  (T.hasType (by decide +kernel)) (I.ok.hd hc) (by rw[he];show (false||(backTo cpos (starEach rest X.env)).any (·.1))=false;rw[hpl];rfl) hni (oZ I hg c.mg ⟨rfl,?_⟩ hd)
 have hA:=ha cpos pins s σ H _ I h;rw[he] at hA ⊢;refine Calls.evalArgs_plain (thn hA fun us s2 ⟨vs,H2,I2,r2,hz,q2⟩=>?_);exact⟨rfl,by rw[<- r2.length];exact hz,I2.bk _ _ hC,hN.keeps I2.bk,T.keeps I2.bk,fun h' e hx=>hE pins σ H2 s2 h' e us I2 hx q2⟩
section
variable {P:Program}{w:World}{K:ac}{mg:Str->Option Value}{base:Heap}{N:List Str}{qual:Str}{scope:Scope}{f:Addr}{cdv:Value}{A:Around}{outer:List Env}{s:Shared}{H:Hp}{E:XK}
theorem Ri {CX:CXT}:Own (oT CX P w K mg base N qual scope f cdv A outer s H E):=⟨rfl,rfl,rfl⟩
theorem oB:jY (CX1 P w) (oT (CX1 P w) P w K mg base N qual scope f cdv A outer s H E) E:=fun pins σ H1 s1 e s' I h=>by
 obtain⟨a,cls,H',rfl,Y,q⟩:=h;exact thn (Fly.on I Ri Y) fun _ s'' Z=>⟨a,cls,H',rfl,Z,q⟩
theorem gY {C:Addr}{pins:List (Addr×Obj)}{σ:St}{H1:Hp}{s1:Shared}{h:Heap}{a:Addr}{args:List Value}(I:Inv (oT (CX1 P w) P w K mg base N qual scope f cdv A outer s H E) pins σ H1 s1)(hx:Heap.MadeExcOf s1.heap h a (.ref C) args)(q:E (.ref C) none H1) :
 (oT (CX1 P w) P w K mg base N qual scope f cdv A outer s H E).xe (.ref a) { s1 with heap:=h }:=thn (Fly.raised I Ri hx) fun _ s'' Z=>⟨a,.ref C,H1,rfl,Z,q⟩
theorem bQ {X:Cx}:jY (CX1 P w) X E0:=fun _ _ _ _ _ _ _ h=>by
 obtain⟨_,_,_,_,_,q⟩:=h;exact q.elim
theorem Fun.okX {x qual:Str}{st:Stmt}{f:Addr}{fd:FuncData}{N ps:List Str}{k:Nat}{sp:Sp}(F:Fun K x qual st f fd)(S:aW N ps (aI st))(len:∀ vs H Q E,sp vs H Q E->vs.length=ps.length)
  (hbody:∀ (cdv:Value) (A:Around) (outer:List Env) (s:Shared) (H:Hp) (vs:List V) (Q:VK) (E:XK),fI k (A.deeper (envOfC qual (aI st) s.heap.objs.size f cdv))->sp vs H Q E ->
   ∃ t,PSs (oT (CX1 P w) P w K mg base N qual (aI st) f cdv A outer s H E) (fA st) t∧t { nx:=fun _ H'=>Q .non H',rt:=Q } (mQ N vs) H):cN P w K mg base (CX1 P w) (k+1) f fd ps sp:=by
 obtain⟨oc,od,kV,doc,pm,an,cdv,ct,osl,rfl,lk,hcd⟩:=F.ex;exact Mw lk hcd S len fun A outer s H vs Q E hr hsp=>hbody cdv A outer s H vs Q E hr hsp
end
def XP (X:Cx)(pins:List (Addr×Obj))(R:St->Value->Hp->Prop)(e:Value)(s':Shared):Prop :=
 ∃ a cls σ' H s1 H',e = .ref a∧Inv X pins σ' H s1∧Fly X.prog X.w X.stack H s1 a cls H' s'∧R σ' cls H'
abbrev TTy:=kU->(St->Value->Hp->Prop)->St->Hp->Prop
def PTy (X:Cx)(st:List Stmt)(t:TTy):Prop :=
 ∀ (pins:List (Addr×Obj)) (s:Shared) (σ:St) (H:Hp) (D:kU) (R:St->Value->Hp->Prop),Inv X pins σ H s->t D R σ H->wpAny (model X.prog X.w) X.A (execs st X.env) (SP X pins D) (XP X pins R) s
section
variable {X:Cx}
abbrev TH:=kU->St->Value->Hp->Prop
def PH (X:Cx)(hs:List ExceptHandler)(t:TH):Prop :=
 ∀ (pins:List (Addr×Obj)) (σ:St) (H:Hp) (s:Shared) (a:Addr) (cls:Value) (H':Hp) (s':Shared) (D:kU),Inv X pins σ H s->Fly X.prog X.w X.stack H s a cls H' s'->t D σ cls H' ->
  wpAny (model X.prog X.w) X.A (handleBy (.ref a) X.env hs) (SP X pins D) X.xe s'
end
namespace RV
theorem zD:typeLookup (.type "list_reverseiterator") "__len__" = pure none:=by rw[typeLookup_type,builtinLookup_eq_fast];kernel_rfl
theorem Gv:typeLookup (.type "list_reverseiterator") "__length_hint__" = pure (some (.builtin "list_reverseiterator.__length_hint__")):=by rw[typeLookup_type,builtinLookup_eq_fast];kernel_rfl
section
variable {prog:Program}{w:World}{A:Around}{E:Value->Shared->Prop}{s:Shared}
theorem Ji {it l:Addr}{i:Int}{Q:Bool->Shared->Prop}(hit:s.heap.IsRevIter it l i)(h:Q false s):wpAny (model prog w) A (Builtin.List.listLengthHint (.ref it)) Q E s:=by
 unfold Builtin.List.listLengthHint;refine wpAny_bind (wpAny_specialOf hit.typeIs zD ?_);show wpAny _ A (specialOf (Value.ref it) (Str.ofString "__length_hint__") >>= _) _ _ _
 refine wpAny_bind (wpAny_specialOf hit.typeIs Gv ?_);generalize hid:("list_reverseiterator.__length_hint__" : String)=id0
 wp_delta
 rw[show splitId id0=some ("list_reverseiterator", "__length_hint__") from by subst hid;decide +kernel]
 subst hid;refine wpAny_bind (wpAny_isInstance (T := "list_reverseiterator") (b:=true) hit.typeIs (by rw[isSubtype_type];kernel_rfl) ?_)
 refine wpAny_ite_split (fun hab=>absurd hab (by decide)) (fun _=>?_);refine wpAny_ite_split (fun _=>?_) (fun hab=>absurd (by decide +kernel) hab);refine wpAny_ite_split (fun hab=>absurd hab (by decide +kernel)) (fun _=>?_);exact wpAny_pure h
theorem zV {R:Result->Shared->Prop}(hh:A.handled=none){it l:Addr}{items:Array Value}(hit:s.heap.IsRevIter it l ((items.size:Int)-1))(hl:s.heap.IsList l items)(hne:l≠it)(S:Addr)(res:Value)(c₀:Nat)
  (h1:S≠it) (h2:S≠l) (hS:s.heap.get? S=some { cls:=.type "list",data:=.seq #[] c₀ })
  (hR:∀ h' tk acc' c',(∀ b o,b≠S->b≠it->s.heap.get? b=some o->h'.get? b=some o)->h'.get? S=some { cls:=.type "list",dict:=none,data:=.seq acc' c',slots:=#[] } ->
   acc'.toList=items.toList.reverse->R (.ok (.ret res)) { s with heap:=h',toks:=tk }) (hn:items.size<=sizeLine) :
  wpAny (model prog w) A.in1 (Builtin.List.listExtendWith (.ref S) (.ref it) res)
   (fun fin s'=>match fin with | .done f=>R (.ok f) s' | .again c'=>c'.quiet=true∧codeAny (model prog w) A c' R s') (fun e s'=>R (.error e) s') s:=by
 have W:=(Walks.listRev (prog:=prog) (w:=w) (A:=A.in1) hh it l hne items).toS;unfold Builtin.List.listExtendWith;refine wpAny_bind (wpAny_typeOf hit.typeIs ?_);have g1:Builtin.List.listSameRef (.ref S) (.ref it)=false:=by simp[Builtin.List.listSameRef,h1]
 have g2:(Value.type "list_reverseiterator" == Value.type "list")=false:=by decide
 have g3:(Value.type "list_reverseiterator" == Value.type "tuple")=false:=by decide
 simp only [g1,g2,g3,gs,cm,if_false];refine wpAny_bind (wpAny_pyIter_revIter hit ?_);refine wpAny_bind (wpAny_holding (Ji hit ?_));refine wpAny_ite_split (fun hab=>absurd hab (by decide +kernel)) (fun _=>?_);have e0:(items.size:Int)-1-((0:Nat):Int)=(items.size:Int)-1:=by omega
 refine wpAny_pure ⟨plainId_quiet F.plain_extend_loop _,codeAny_extend_loopS W hn S (by simp[h1,h2]) res items.size 0 _ #[] c₀ rfl (bi _) ⟨bi _,by rw[e0];exact hit,hl⟩ hS (ItemsOf.nil _) fun s' acc' c' hm hS' hacc=>?_⟩;rw[Moved.eq_with hm];refine hR s'.heap s'.toks acc' c' (fun b o hb hb2 e=>hm.heap b o (by simp[hb,hb2]) e) hS' ?_
 ·apply j4
  intro i;have hsz:=hacc.1;by_cases hi:i<items.size
  ·have e1:acc'[i]?=some (acc'[i]'(by omega)):=ei (by omega)
   have e2:=hacc.2 i _ e1;rw[List.getElem?_reverse (by simpa using hi),et,et,e1,<- e2];simp
  ·rw[cp (by simp;omega),cp (by simp;omega)]
theorem Ht {R:Result->Shared->Prop}(hh:A.handled=none){it l:Addr}{items:Array Value}(hit:s.heap.IsRevIter it l ((items.size:Int)-1))(hl:s.heap.IsList l items)(hne:l≠it)(S:Addr)
  (h1:S≠it) (h2:S≠l) (hS:s.heap.get? S=some { cls:=.type "list",data:=.seq #[] })
  (hR:∀ h' tk acc' c',(∀ b o,b≠S->b≠it->s.heap.get? b=some o->h'.get? b=some o)->h'.get? S=some { cls:=.type "list",dict:=none,data:=.seq acc' c',slots:=#[] } ->
   acc'.toList=items.toList.reverse->R (.ok (.ret .none)) { s with heap:=h',toks:=tk }) (hn:items.size<=sizeLine) :
  wpAny (model prog w) A.in1 (Builtin.«list.__init__» ⟨[.ref S,.ref it],[]⟩)
   (fun fin s'=>match fin with | .done f=>R (.ok f) s' | .again c'=>c'.quiet=true∧codeAny (model prog w) A c' R s') (fun e s'=>R (.error e) s') s:=by
 show wpAny _ _ (do let old <- Builtin.List.listItems (.ref S);Builtin.List.listUpdate (.ref S) (fun _=>#[]);letGo old.toList.reverse;Builtin.List.listExtendWith (.ref S) (.ref it) .none) _ _ s;refine wpAny_bind ?_;unfold Builtin.List.listItems;refine wpAny_bind (wpAny_seqItems hS rfl (wpAny_pure ?_));show wpAny _ _ (updateSeq S (fun _=>#[]) >>= fun _=>letGo (#[]:Array Value).toList.reverse >>= fun _=>Builtin.List.listExtendWith (.ref S) (.ref it) .none) _ _ s;refine wpAny_bind (wpAny_updateSeq hS rfl ?_);have hS₂:=Heap.get?_update_self (Obj.mapSeq (fun _=>(#[]:Array Value))) hS rfl;have oth:∀ b o,b≠S->s.heap.get? b=some o->(s.heap.update S (Obj.mapSeq (fun _=>(#[]:Array Value)))).get? b=some o :=
  fun b o hb e=>(Heap.get?_update_other _ _ (Ne.symm hb)).trans e
 refine wpAny_bind (wpAny_letGo ?_);refine zV hh (hit.at fun o e=>oth it o (Ne.symm h1) e) (hl.at fun o e=>oth l o (Ne.symm h2) e) hne S .none _ h1 h2 hS₂ (fun h' tk acc' c' hk hS' hacc=>?_) hn;exact hR h' tk acc' c' (fun b o hb hb2 e=>hk b o hb hb2 (oth b o hb e)) hS' hacc
theorem rX {Q:Value->Shared->Prop}(hh:A.handled=none){it l:Addr}{items:Array Value}(hit:s.heap.IsRevIter it l ((items.size:Int)-1))(hl:s.heap.IsList l items)(hne:l≠it)
  (hQ:∀ h' tk acc' c',(∀ b o,b≠it->s.heap.get? b=some o->h'.get? b=some o)->h'.get? s.heap.objs.size=some { cls:=.type "list",dict:=none,data:=.seq acc' c',slots:=#[] } ->
   acc'.toList=items.toList.reverse->Q (.ref s.heap.objs.size) { s with heap:=h',toks:=tk }) (hn:items.size<=sizeLine) :
  wpAny (model prog w) A (call (.type "list") [.ref it]) Q E s:=by
 refine callType_codes (Q₁:=fun obj s₁=>obj = .ref s.heap.objs.size∧s₁ = { s with heap:=s.heap.push { cls:=.type "list",data:=.seq #[] } }) F.called_list (F.typeCall_list_1 _) F.entry_list_init
  (code_list_new _ ⟨rfl,rfl⟩) fun obj s₁ h₁=>?_
 obtain⟨rfl,rfl⟩:=h₁;have hS:(s.heap.push { cls:=.type "list",data:=.seq #[] }).get? s.heap.objs.size=some { cls:=.type "list",data:=.seq #[] }:=Heap.get?_push_size _ rfl
 obtain⟨oi,hoi,ri⟩:=id hit;obtain⟨ol,hol,rl⟩:=id hl;refine⟨⟨_,hS,rfl⟩,F.args_list_init_2 _ _,Ht (A:=A.in1) hh ⟨oi,Heap.get?_push_of_some _ hoi,ri⟩ ⟨ol,Heap.get?_push_of_some _ hol,rl⟩ hne _ (Ne.symm (ay (Heap.lt_size hoi))) (Ne.symm (ay (Heap.lt_size hol))) hS (fun h' tk acc' c' hk hS' hacc=>?_) hn⟩;exact⟨rfl,hQ h' tk acc' c' (fun b o hb e=>hk b o (ay (Heap.lt_size e)) hb (Heap.get?_push_of_some _ e)) hS' hacc⟩
end
end RV
section
variable {X:Cx}
theorem Rq {e:Expr}{pos:Pos}{s:Shared}{Q:List Value->Shared->Prop}{E:Value->Shared->Prop}(h:wpAny (model X.prog X.w) X.A (eval e X.env) (fun u s1=>Q [u] s1) E s)(hs:starEach [e] X.env=(false,eval e X.env)::starEach [] X.env) :
  wpAny (model X.prog X.w) X.A (spliced (backTo pos (starEach [e] X.env))) Q E s:=by
 rw[hs];show wpAny _ _ (spliced ((false,eval e X.env)::backTo pos (starEach [] X.env))) _ _ s;exact Calls.spliced_cons (thn h fun u s1 q=>Calls.spliced_nil q)
def tLR (K:ac)(t:TE):TE:=fun σ H Q=>t σ H fun x H1=>∃ (p:Addr) (vs:List V),x = .ref p∧SqL K H1 p vs∧∀ D,H1 D=none->Q (.ref D) (upd H1 D (.lst vs.reverse))
theorem yU {e:Expr}{t:TE}{p1 p2 pos pos2:Pos}(hc:X.calm=true)(g1:Gl X "list")(m1:X.mg "list" = none)(g2:Gl X "reversed")(m2:X.mg "reversed" = none)(he:PE X e t)
  (s1:starEach [e] X.env=(false,eval e X.env)::starEach [] X.env:=by rfl)
  (hb1:bootBuiltins "list" = some (.type "list"):=by decide +kernel) (hb2:bootBuiltins "reversed" = some (.type "reversed"):=by decide +kernel) :
  PE X (.Call (.Name "list" p1) [.Call (.Name "reversed" p2) [e] [] pos2] [] pos) (tLR X.K t):=by
 intro pins s σ H Q I h;refine wpAny_Call_Name_kw (jM I g1 m1 hb1 ?_ (by decide) (by decide));refine d0 (Rq ?_ rfl) rfl rfl;refine wpAny_Call_Name_kw (jM I g2 m2 hb2 ?_ (by decide) (by decide));refine d0 (Rq (thn (he pins s σ H _ I h) fun u s' ⟨v,H1,I1,r1,q1⟩=>?_) s1) s1 rfl;obtain⟨p,vs,rfl,hq,q⟩:=q1;cases r1;obtain⟨its,r,pl,hz⟩:=I1.list hq;have hl:=pl.isList;refine call_reversed_list hl ?_;have hlt:p<s'.heap.objs.size:=by obtain⟨o,ho,_⟩:=hl;exact Heap.lt_size ho
 have hl2:(s'.heap.push (revObj p ((its.toArray.size:Int)-1))).IsList p its.toArray:=by
  obtain⟨o,ho,rr⟩:=hl;exact⟨o,Heap.get?_push_of_some _ ho,rr⟩
 refine RV.rX (I1.ok.hd hc) (it:=s'.heap.objs.size) (l:=p) (items:=its.toArray) ⟨_,Heap.get?_push_size _ rfl,rfl,rfl⟩ hl2 (ay hlt) (fun h' tk acc' c' hk hS hacc=>?_) (by rw[ao,<- r.length];exact hz);have hp:s'.heap.objs.size<=(s'.heap.push (revObj p ((its.toArray.size:Int)-1))).objs.size:=by
  unfold Heap.push;simp
 have hf:H1 (s'.heap.push (revObj p ((its.toArray.size:Int)-1))).objs.size=none:=I1.hok.fresh hp;refine⟨.ref _,_,I1.laid (t':=tk) (fun b u eb=>hk b u (ay (Heap.lt_size eb)) (Heap.get?_push_of_some _ eb)) hp (o:=.lst vs.reverse) ⟨by rw[pf];exact hz,acc'.toList,c',?_,by simpa using hS⟩,rfl,q _ hf⟩;rw[hacc];exact r.reverse
theorem tK:∀ (x:List Nat) (ls:List (List Nat)),risingS (tx x) (ls.map tx)=true->(∀ y∈ls,¬ y<x)∧ls.Pairwise (fun a b=>¬ b<a)
 | x,[],_=>⟨fun _ h=>(by cases h),.nil⟩
 | x,y::ls,h=>by
  have h':(!ltCps (tx y).cps.toList (tx x).cps.toList&&risingS (tx y) (ls.map tx))=true:=h;rw[dg,cZ,cZ,ltCps_eq] at h';obtain⟨a,b⟩:=tK y ls h'.2;have h1:¬ y<x:=by simpa using h'.1
  refine⟨fun z hz=>?_,l7.mpr ⟨a,b⟩⟩;rcases au.mp hz with rfl | hz
  ·exact h1
  ·exact Wd.Tq h1 (a z hz)
theorem tH:∀ (ls:List (List Nat)),sortedS (ls.map tx)=true->ls.Pairwise (fun a b=>¬ b<a)
 | [],_=>.nil
 | x::ls,h=>l7.mpr (tK x ls h)
theorem nQ:∀ {us:List Value} {ss:List Str},StrsAre us ss->bN ((ss.map fun x=>x.cps.toList).map T) us
 | _,_,.nil=>.nil
 | _,_,.cons x t h=>.cons ⟨t,by show Value.str x t=Value.str (tx x.cps.toList) t;rw[iN]⟩ (nQ h)
theorem mS:dX X (.builtin "sorted") (fun xs H Q=>∃ (p:Addr) (ls:List (List Nat)),xs=[.ref p]∧SqL X.K H p (ls.map T)∧ls.length<64∧∀ (ms:List (List Nat)) (D:Addr),H D=none->ms.Perm ls->ms.Pairwise (fun a b=>¬ b<a)->Q (.ref D) (upd H D (.lst (ms.map T)))):=by
 intro pins s σ H xs us Q I r h;obtain⟨p,ls,rfl,hq,h64,q⟩:=h;obtain⟨u,rfl,ru⟩:=fE r;cases ru;obtain⟨its,rv,pl,hz⟩:=I.list hq;have hlen:=rv.length;rw[aR] at hlen;refine sorted_strs pl.isList (tO rv) (by omega) fun out ss' a1 a2 a3=>?_
 obtain⟨e,he⟩:=sortedAll_at s.heap its out;have em:(ss'.map fun x=>x.cps.toList).map tx=ss':=by
  rw[bf]
  conv=>rhs;rw[<- g9 ss']
  exact bb fun x _=>iN x
 have hp:(ss'.map fun x=>x.cps.toList).Perm ls:=by
  have z:=a2.map fun x=>x.cps.toList
  have e2:(ls.map tx).map (fun x=>x.cps.toList)=ls:=by
   rw[bf]
   conv=>rhs;rw[<- g9 ls]
   exact bb fun x _=>cZ x
  rw[e2] at z;exact z
 have hpl:=hp.length_eq;refine⟨.ref _,_,I.laid (t':=s.toks) (fun _ _=>sortedAll_old) (gr _) (o:=.lst ((ss'.map fun x=>x.cps.toList).map T)) ⟨by rw[aR,hpl];rw[aR] at hz;exact hz,out.toList,e,nQ a1,by simpa using he⟩,rfl,q _ _ (I.hok.fresh (gr _)) hp (tH _ (by rw[em];exact a3))⟩
theorem xS (hu:X.A.units<cLine):OpR X (compareOp .NotEq) (fun x y H Q=>∃ (p b:Addr) (ls ms:List (List Nat)),x = .ref p∧y = .ref b∧SqL X.K H p (ls.map T)∧SqL X.K H b (ms.map T)∧Q (.bl (!decide (ls=ms))) H):=by
 intro pins s σ H x y v u Q I rx ry h;obtain⟨p,b,ls,ms,rfl,rfl,h1,h2,q⟩:=h;cases rx;cases ry;obtain⟨its,r,pl,_⟩:=I.list h1;obtain⟨its2,r2,pl2,_⟩:=I.list h2;have l1:=r.length;have l2:=r2.length;rw[aR] at l1 l2;by_cases hl:ls.length=ms.length
 ·refine SeqAt.RcNeAt.lists (e:=fun j=>decide (ls[j]?=ms[j]?)) pl.isList pl2.isList (by rw[ao,ao];omega) hu (fun j g1 g2=>zG r r2 (by simp) (by simp)) _ _ _ _ ?_
  rw[ao,<- l1,mR hl];exact⟨.bl _,H,I,rfl,q⟩
 ·refine SeqAt.RcNeAt.lists_lengths pl.isList pl2.isList (by rw[ao,ao,bne_iff_ne];omega) hu _ _ _ _ ?_
  have e:decide (ls=ms)=false:=decide_eq_false fun z=>hl (by rw[z])
  rw[e] at q;exact⟨.bl _,H,I,rfl,q⟩
end
def nub:List (List Nat)->List (List Nat)->List (List Nat)
 | acc,[]=>acc
 | acc,l::ls=>if l∈acc then nub acc ls else nub (acc++[l]) ls
def eQ (ls:List (List Nat)):Nat->List (List Nat)
 | 0=>[]
 | i+1=>if ls.getD i []∈eQ ls i then eQ ls i else eQ ls i++[ls.getD i []]
theorem kJ (ls:List (List Nat)):∀ i,(eQ ls i).length<=i
 | 0=>af _
 | i+1=>by
  have h:=kJ ls i;rw[eQ];split
  ·omega
  ·rw[ag,da]
   omega
theorem oI (ls:List (List Nat)):∀ i,(eQ ls i).Nodup
 | 0=>gx
 | i+1=>by
  have h:=oI ls i;rw[eQ];split
  ·exact h
  ·rename_i hn
   refine di.mpr ⟨h,by simp,fun a ha b hb e=>?_⟩;have hb':b=ls.getD i []:=by simpa using hb
   rw[e,hb'] at ha;exact hn ha
theorem nD (ls:List (List Nat))(x:List Nat):∀ i,i<=ls.length->(x∈eQ ls i↔x∈ls.take i)
 | 0,_=>by simp[eQ]
 | i+1,hi=>by
  have h:=nD ls x i (by omega);have e:ls.take (i+1)=ls.take i++[ls.getD i []]:=by
   rw[br,ah,aa (by omega)];rfl
  rw[e,a6,eQ];split
  ·rename_i hm
   rw[h];constructor
   ·exact .inl
   ·rintro (q | q)
    ·exact q
    ·have q':x=ls.getD i []:=by simpa using q
     rw[q',<- nD ls _ i (by omega)];exact hm
  ·rw[a6,h]
def uniq (ls:List (List Nat)):List (List Nat):=eQ ls ls.length
theorem lK (ls:List (List Nat)):(uniq ls).Nodup:=oI ls _
theorem fJ (ls:List (List Nat))(x:List Nat):x∈uniq ls↔x∈ls:=by
 rw[uniq,nD ls x _ (af _),bv]
namespace SE
section
variable {prog:Program}{w:World}{A:Around}{R:Result->Shared->Prop}{J:Addr}{fp wr:List Addr}{G:Array GenState->Array GenState->Prop}{n:Nat}{P:Nat->Value->Prop}{St:Nat->Shared->Prop}
abbrev Has (prog:Program)(w:World)(h:Heap)(D:Addr)(ms:List (List Nat)):Prop:=h.SetOf (eu prog w) D (fun x=>decide (x.cps.toList∈ms)) ms.length
theorem Has.at {h h':Heap}{D:Addr}{ms:List (List Nat)}(x:Has prog w h D ms)(k:∀ o,h.get? D=some o->h'.get? D=some o):Has prog w h' D ms:=by
 obtain⟨o,es,ep,tb,ho,r⟩:=x;exact⟨o,es,ep,tb,k o ho,r⟩
theorem loop (W:WalksS prog w A.in1 J fp wr G n P St){D:Addr}(hD:D∉fp)(ls:List (List Nat))(hv:∀ i v,P i v->∃ t,v=Value.str (tx (ls.getD i [])) t)(hn:n+1<scanBound) :
  ∀ (k i:Nat) (s:Shared),n-i=k->i<=n->St i s->Has prog w s.heap D (eQ ls i) ->
   (∀ s',Moved (D::wr) G s s'->Has prog w s'.heap D (eQ ls n)->R (.ok (.ret .none)) s')->codeAny (model prog w) A (.builtin "set.update.loop" ⟨[.ref D,.ref J],[]⟩) R s:=by
 have hDw:D∉wr:=fun z=>hD (W.sub _ z)
 have up:∀ b∈wr,b∈D::wr:=fun b hb=>.tail _ hb
 intro k
 induction k with
 | zero =>
  intro i s hk hi st hs hR;obtain rfl:i=n:=by omega
  refine codeAny_builtin ej ?_;rw[Around.under_plainId df];refine wpAny_bind (m:=pyNext (.ref J)) (W.done s _ _ st fun s2 mv=>?_);exact (show wpAny _ A.in1 (ret Value.none) _ _ s2 from wpAny_pure (hR s2 (mv.mono up) (hs.at fun o e=>mv.heap D o hDw e)))
 | succ k ih =>
  intro i s hk hi st hs hR;have hlt:i<n:=by omega
  refine codeAny_builtin ej ?_;rw[Around.under_plainId df];refine wpAny_bind (m:=pyNext (.ref J)) (W.item i s _ _ hlt st fun v s2 pv st2 mv=>?_);obtain⟨t,rfl⟩:=hv i v pv;have hs2:=hs.at fun o e=>mv.heap D o hDw e
  refine wpAny_bind (m:=holding [Value.str (tx (ls.getD i [])) t] (setAdd D (.str (tx (ls.getD i [])) t))) (wpAny_holding ?_);unfold setAdd;refine wpAny_holding (wpAny_bind ((eu prog w).pyHash (k:=tx (ls.getD i [])) (strKind_is _ _ _ _) ?_));have hl:=kJ ls i;refine wpAny_setAddHashed_of (knd:=eu prog w) (s:={ s2 with toks:=s2.toks+1 }) (strKind_is _ _ _ _) rfl hs2 (by omega) fun h3 sb x3=>?_
  have x4:Has prog w h3 D (eQ ls (i+1)):=by
   refine mx x3 (fun y=>?_) ?_
   ·rw[eQ]
    split
    ·rename_i hm
     rw[ci,iy,decide_eq_true_iff,decide_eq_true_iff];constructor
     ·rintro (q | q)
      ·exact q
      ·rw[q,cZ]
       exact hm
     ·exact .inl
    ·rw[ci,iy,decide_eq_true_iff,decide_eq_true_iff,decide_eq_true_iff,a6,aq]
     constructor
     ·rintro (q | q)
      ·exact .inl q
      ·right
       rw[q,cZ]
     ·rintro (q | q)
      ·exact .inl q
      ·right
       rw[<- q,iN]
   ·rw[cZ,eQ]
    by_cases hm:ls.getD i []∈eQ ls i
    ·rw[if_pos hm,if_pos (decide_eq_true hm)]
    ·rw[if_neg hm,if_neg (by rw[decide_eq_false hm];exact ak),ag]
     rfl
  refine wpAny_pure ⟨plainId_quiet df _,ih (i+1) _ (by omega) hlt (W.frame _ s2 _ _ st2 (gr _) fun b hb o e=>(sb.2 b fun z=>hD (z▸hb)).trans e) x4 fun s5 m5 x5=>?_⟩;refine hR s5 (Moved.trans W.gtrans ((mv.mono up).then_heap (gr _) fun b o hb e=>(sb.2 b fun z=>hb (z▸.head _)).trans e) m5) x5
variable {E:Value->Shared->Prop}{s:Shared}
theorem Md {l:Addr}{its:Array Value}{ls:List (List Nat)}{Q:Value->Shared->Prop}(hh:A.handled=none)(hl:s.heap.IsList l its)(hv:∀ i v,its[i]?=some v->∃ t,v=Value.str (tx (ls.getD i [])) t)(hn:its.size+1<scanBound)
  (h:∀ (h':Heap) (tk:Nat),Has prog w h' s.heap.objs.size (eQ ls its.size)->(∀ b o,s.heap.get? b=some o->h'.get? b=some o)->Q (.ref s.heap.objs.size) { s with heap:=h',toks:=tk }) :
  wpAny (model prog w) A (call (.type "set") [.ref l]) Q E s:=by
 obtain⟨mc,mt,f0⟩:=F.called_set.mro;have f1:=F.called_set.made;have f2:=F.called_set.sub;have f3:=F.called_set.notType;have f4:=F.called_set.canCreate;have f5:=F.typeCall_set_1 (.ref l);refine wpAny_call (codeAny_of_tree (show wpAny _ _ (callAny (.type "set") _) _ _ _ from wpAny_pure ⟨Code.quiet_builtin _ (by decide +kernel),codeAny_builtin F.entry_type_call ?_⟩))
 rw[Around.under_plain (weight_type_call_type "set" [.ref l] []) rfl]
 repeat (any_goals (first | wp_step | assumption))
 refine codeAny_mono (code_set_new_1 (.ref l) (E:=E) (Q₁:=fun ob s1=>∃ b:Bool,ob = .ref s.heap.objs.size∧s1 = { s with heap:=s.heap.push { cls:=.type "set",dict:=none,data:=.set #[] 0 (.fresh 0 0 b) } }) fun b=>⟨b,rfl,rfl⟩) fun r s1 hr=>?_
 cases r with
 | error e=>exact hr
 | ok fl =>
  cases fl with
  | ret ob =>
   obtain⟨b,rfl,rfl⟩:=hr;generalize hob:({ cls:=.type "set",dict:=none,data:=.set #[] 0 (.fresh 0 0 b) }:Obj)=ob
   have hD:(s.heap.push ob).get? s.heap.objs.size=some ob:=Heap.get?_push_size _ (by rw[<- hob];rfl);have hT:Shared.TypeIs { s with heap:=s.heap.push ob } (.ref s.heap.objs.size) "set" := ⟨_,hD,by rw[<- hob]⟩
   have f6:=F.called_set.init.lookup;have f7:=F.called_set.init.bind (.ref s.heap.objs.size)
   repeat (any_goals (first | wp_step | assumption))
   refine codeAny_mono (codeAny_call_builtin (R:=wants (fun r s2=>r = .none∧∃ h' tk,s2 = { s with heap:=h',toks:=tk }∧Has prog w h' s.heap.objs.size (eQ ls its.size)∧∀ b o,s.heap.get? b=some o->h'.get? b=some o) E)
    F.called_set.init.plain F.entry_set_init (check_set_init_1 hT ?_)) fun r2 s2 hr2=>?_
   ·obtain⟨⟨oc,od,odt,osl⟩,hol,hcl,nl,hdl⟩:=id hl
    simp only at hcl hdl;subst hcl hdl;have hol':(s.heap.push ob).get? l=some { cls:=.type "list",dict:=od,data:=.seq its nl,slots:=osl }:=Heap.get?_push_of_some _ hol
    have f8:=F.sub_list_set;have f9:=F.sub_list_frozenset;have f10:(Value.type "list" == Value.type "dict")=false:=by decide
    have hl1:(s.heap.push ob).IsList l its:=⟨_,hol',rfl,nl,rfl⟩;subst hob;unfold Builtin.«set.__init__» noKeywords Builtin.Frozenset.updateFrom;generalize hPI:pyIter=PI
    wp_walk
    subst hPI;refine wpAny_pyIter_list hl1 ?_;refine wpAny_bind (wpAny_runValue ?_);have hlt:l<s.heap.objs.size:=Heap.lt_size hol;have hh3:A.in1.in1.in1.handled=none:=by simp[hh]
    have hsz:(s.heap.push { cls:=.type "set",dict:=none,data:=.set #[] 0 (.fresh 0 0 b) }).objs.size=s.heap.objs.size+1:=Heap.size_push _ _
    have hne:l≠(s.heap.push { cls:=.type "set",dict:=none,data:=.set #[] 0 (.fresh 0 0 b) }).objs.size:=by rw[hsz];exact ay (d6 hlt)
    have hfp:s.heap.objs.size∉[(s.heap.push { cls:=.type "set",dict:=none,data:=.set #[] 0 (.fresh 0 0 b) }).objs.size,l]:=by
     rw[hsz];intro z;rcases au.mp z with e | e
     ·exact ay (gu _) e
     ·exact fu hlt (aq.mp e)
    refine loop ((Walks.list hh3 _ l hne its).toS) (D:=s.heap.objs.size) hfp ls hv hn (its.size-0) 0 _ (by omega) (bi _) ⟨⟨_,Heap.get?_push_size _ rfl,rfl,rfl⟩,hl1.push _⟩ ?_ fun s3 mv x3=>?_
    ·have hg:((s.heap.push { cls:=.type "set",dict:=none,data:=.set #[] 0 (.fresh 0 0 b) }).push { cls:=.type "list_iterator",data:=.fields #[.ref l,.int 0 0] }).get? s.heap.objs.size=some { cls:=.type "set",dict:=none,data:=.set #[] 0 (.fresh 0 0 b) }:=Heap.get?_push_of_some _ hD
     exact mx ((PyProof.Rows.setObjOf_fresh (knd:=eu prog w) b).setOf hg (by unfold scanBound;omega)) (fun _=>rfl) rfl
    ·obtain⟨h3,g3,d3,tk3,os3⟩:=s3
     obtain rfl:g3=s.gens:=mv.gens;obtain rfl:d3=s.drawn:=mv.drawn;obtain rfl:os3=s.os:=mv.os;refine wpAny_pure (show wpAny _ _ (ret Value.none) _ _ _ from wpAny_pure ⟨rfl,h3,tk3,rfl,x3,fun c o e=>?_⟩);have hc:=Heap.lt_size e;exact mv.heap c o (show c∉[s.heap.objs.size,(s.heap.push { cls:=.type "set",dict:=none,data:=.set #[] 0 (.fresh 0 0 b) }).objs.size] by
      rw[hsz];intro z;rcases au.mp z with e | e
      ·exact ay hc e
      ·exact ay (d6 hc) (aq.mp e)) (Heap.get?_push_of_some _ (Heap.get?_push_of_some _ e))
   ·cases r2 with
    | error e=>exact hr2
    | ok fl2 =>
     cases fl2 with
     | ret r =>
      obtain⟨rfl,h3,tk,rfl,x3,k3⟩:=hr2
      repeat (any_goals (first | wp_step | assumption))
      exact h _ _ x3 k3
     | _=>exact hr2.elim
  | _=>exact hr.elim
end
end SE
def Fh (P:Program)(w:World)(D:Addr)(ms:List (List Nat)):HO:=.ext fun h=>SE.Has P w h D ms
section
variable {X:Cx}
theorem Hd {ls:List (List Nat)}{us:List Value}(r:bN (ls.map T) us){i:Nat}{v:Value}(h:us[i]?=some v):∃ t,v=Value.str (tx (ls.getD i [])) t:=by
 have hl:=r.length;rw[aR] at hl;have hi:i<ls.length:=by have:=(al.mp h).1;omega
 obtain⟨u,h1,h2⟩:=r.get (i:=i) (x:=T ls[i]) (by rw[aj,aa hi];rfl);rw[h] at h1;cases h1;rw[ah,aa hi];exact h2
theorem Er (hc:X.calm=true):dX X (.type "set") (fun xs H Q=>∃ (p:Addr) (ls:List (List Nat)),xs=[.ref p]∧SqL X.K H p (ls.map T)∧ls.length+1<4096∧∀ D,H D=none->Q (.ref D) (upd H D (Fh X.prog X.w D (uniq ls)))):=by
 intro pins s σ H xs us Q I r h;obtain⟨p,ls,rfl,hq,hz,q⟩:=h;obtain⟨u,rfl,ru⟩:=fE r;cases ru;obtain⟨its,rv,pl,_⟩:=I.list hq;have hlen:=rv.length;rw[aR] at hlen;refine SE.Md (I.ok.hd hc) pl.isList (ls:=ls) (fun i v e=>Hd rv (by simpa using e)) (by rw[ao];unfold scanBound;omega) fun h' tk x k=>?_
 have e:eQ ls its.toArray.size=uniq ls:=by rw[ao,<- hlen];rfl
 rw[e] at x;have hf:H s.heap.objs.size=none:=I.hok.fresh (af _);refine⟨.ref s.heap.objs.size,_,I.laid (t':=tk) k (af _) (o:=Fh X.prog X.w s.heap.objs.size (uniq ls)) ?_,rfl,q _ hf⟩;refine⟨x,?_,fun h1 h2 x1 kk=>x1.at kk⟩;obtain⟨o,_,_,_,ho,_⟩:=x;exact⟨o,ho⟩
theorem Dv:dX X (.builtin "len") (fun xs H Q=>∃ (D:Addr) (ms:List (List Nat)),xs=[.ref D]∧H D=some (Fh X.prog X.w D ms)∧Q (.int (ms.length:Nat)) H):=by
 intro pins s σ H xs us Q I r h;obtain⟨D,ms,rfl,hD,q⟩:=h;obtain⟨u,rfl,ru⟩:=fE r;cases ru;obtain⟨⟨o,es,ep,tb,ho,hex,hd,_,_,hb,hf,hn⟩,_⟩:=(show cJ X.prog X.w H s.heap D (Fh X.prog X.w D ms) from I.hok D _ hD);have hb':es.size<4096:=hb;exact call_len_set ho hex hd hf (by omega) ⟨.int (ms.length:Nat),H,I.tok _,⟨s.toks+1,by rw[<- hn]⟩,q⟩
namespace LM
end LM
theorem pT (K:ac)(hK:X.K=K):dX X (.builtin "len") (fun xs H Q=>∃ p ys,xs=[.ref p]∧(SqL K H p ys∨SqT K H p ys)∧Q (.int ys.length) H):=by
 subst hK;exact aP
theorem tI (K:ac)(hK:X.K=K):IxR X (Qk K):=by
 subst hK;exact bX
end
def Itx (l:List Nat):It:=⟨fun i _=>i<l.length,fun i H x H'=>H'=H∧∃ c,l[i]?=some c∧x=T [c],fun i _=>l.length<=i⟩
theorem Ep {P:Program}{w:World}{K:ac}{tg:Expr}{it:Addr}{ty:String}{l:List Nat}{t:Tok}(hty:ty = "str_ascii_iterator" ∨ ty = "str_iterator")
  (W:∀ A:Around,A.handled=none->Walks P w A it [it] [it] (tx l).cps.size (SignAt (tx l)) (fun i h=>h.IsStrIter it ty (tx l) t i)):pQ P w K tg (Itx l) [it] it (fun i h=>h.IsStrIter it ty (tx l) t i) where
 mem:=by simp
 obj:=fun i h st b hb=>by
  have e:b=it:=by simpa using hb
  subst e;obtain⟨o,e,c,d⟩:=st;exact⟨o,e,fun v z=>by rw[d] at z;cases z⟩
 keep:=fun i h h' st k=>by
  obtain⟨o,e,r⟩:=st;exact⟨o,k it (by simp) o e,r⟩
 item:=by
  intro X hP hw hK hc i pins s σ H E I hf st hg;subst hP hw hK;obtain⟨f0,f1,f2,f3,f4,f5⟩:=hf it (by simp);refine (W X.A (I.ok.hd hc)).item i s _ _ (by have:i<l.length:=hg;simpa [tx] using this) st fun v h' tk hv st' kk=>?_
  obtain⟨c,u,hcu,rfl⟩:=hv;have I1:Inv X pins σ H { s with heap:=h',toks:=tk }:=I.turned (fun b o hb e=>kk b o (by simpa using hb) e) f0 f1 f3 f4 f5;obtain⟨o,e,cl,d⟩:=id st';refine⟨_,rfl,Ce (s:={ s with heap:=h',toks:=tk }) (n:=ty) e cl d (by rcases hty with rfl | rfl <;> decide) ⟨T [c],H,I1,⟨u,rfl⟩,⟨rfl,c,?_,rfl⟩,st',fun b hb=>(hf b hb).1⟩⟩
  simpa [tx] using hcu
 done:=by
  intro X hP hw hK hc i pins s σ H E I hf st hg;subst hP hw hK;obtain⟨f0,f1,f2,f3,f4,f5⟩:=hf it (by simp);have hn:l.length<=i:=hg;obtain⟨o,e,cl,d⟩:=id st;rcases hty with rfl | rfl
  ·exact wpAny_pyNext_ascii_end (I.ok.hd hc) st (by simpa [tx] using hn) fun h' eb=>⟨rfl,I.turned (t':=s.toks) (fun b o hb e=>eb b o hb e) f0 f1 f3 f4 f5⟩
  ·exact wpAny_pyNext_wide_end (I.ok.hd hc) st (by simpa [tx] using hn) fun h' eb=>⟨rfl,I.turned (t':=s.toks) (fun b o hb e=>eb b o hb e) f0 f1 f3 f4 f5⟩
 self:=fun A i s Q E st h=>by
  rcases hty with rfl | rfl
  ·exact wpAny_pyIter_striter_ascii st h
  ·exact wpAny_pyIter_striter_wide st h
def Tw (tl:TE):TI:=fun σ H R=>tl σ H fun x H1=>∃ l,x=T l∧R (Itx l) H1
section
variable {X:Cx}{tg:Expr}
theorem yT {e:Expr}{tl:TE}(hl:PE X e tl):PI X tg e (Tw tl):=by
 intro pins s σ H R I h;refine thn (hl pins s σ H _ I h) fun v s1 ⟨x,H1,I1,r1,q1⟩=>?_
 obtain⟨l,rfl,q⟩:=q1;obtain⟨t,rfl⟩:=r1;have fin:∀ (ty:String) (o:Obj),(ty = "str_ascii_iterator" ∨ ty = "str_iterator")->(∀ A:Around,A.handled=none->Walks X.prog X.w A s1.heap.objs.size [s1.heap.objs.size] [s1.heap.objs.size] (tx l).cps.size (SignAt (tx l)) (fun i h=>h.IsStrIter s1.heap.objs.size ty (tx l) t i)) ->
   (s1.heap.push o).IsStrIter s1.heap.objs.size ty (tx l) t 0->PIE X pins σ tg R (.ref s1.heap.objs.size) { s1 with heap:=s1.heap.push o }:=fun ty o hty W st=>by
  refine⟨s1.heap.objs.size,[s1.heap.objs.size],_,_,H1,rfl,I1.kept (t':=s1.toks) fun b o e=>Heap.get?_push_of_some _ e,Ep hty W,st,fun b hb=>?_,q⟩;have e:b=s1.heap.objs.size:=by simpa using hb
  subst e;exact I1.fpOk (af _) (I1.hok.fresh (af _))
 cases ha:(tx l).cps.all (· < 128)
 ·exact wpAny_pyIter_wide ha (fin "str_iterator" _ (.inr rfl) (fun A hA=>Walks.strWide hA _ (tx l) t) ⟨_,Heap.get?_push_size _ rfl,rfl,rfl⟩)
 ·exact wpAny_pyIter_ascii ha (fin "str_ascii_iterator" _ (.inl rfl) (fun A hA=>Walks.strAscii hA _ (tx l) t) ⟨_,Heap.get?_push_size _ rfl,rfl,rfl⟩)
end
theorem Jl {l:List Nat}{g:TG}{tb:TS}{D:kU}{σ:St}{H:Hp}(Pv:Nat->St->Hp->Prop)(h0:Pv 0 σ H)
  (hs:∀ i c σ H,l[i]?=some c->Pv i σ H->g (T [c]) σ H fun σ2 H2=>tb { D with nx:=Pv (i+1),ct:=Pv (i+1),bk:=D.nx } σ2 H2) (hd:∀ σ H,Pv l.length σ H->D.nx σ H) :
  ∃ W:Nat->Nat->St->Hp->Prop,(∃ m,W 0 m σ H)∧∀ i m σ H,W i m σ H ->
   ((Itx l).stop i H∧D.nx σ H)∨((Itx l).go i H∧∃ N:St->Hp->Prop,(∀ σ' H',N σ' H'->∃ m',m'<m∧W (i+1) m' σ' H')∧∀ x H',(Itx l).yld i H x H'->g x σ H' fun σ2 H2=>tb { D with nx:=N,ct:=N,bk:=D.nx } σ2 H2):=by
 refine⟨fun i m σ H=>m=l.length-i∧i<=l.length∧Pv i σ H,⟨l.length,by simp,bi _,h0⟩,?_⟩;rintro i m σ H ⟨rfl,hi,p⟩;by_cases hlt:i<l.length
 ·refine .inr ⟨hlt,Pv (i+1),fun σ' H' p'=>⟨l.length-(i+1),by omega,rfl,hlt,p'⟩,fun x H' y=>?_⟩
  obtain⟨rfl,c,hc,rfl⟩:=y;exact hs i c σ _ hc p
 ·obtain rfl:i=l.length:=by omega
  exact .inl ⟨af _,hd σ H p⟩
section
variable {X:Cx}
theorem wG:OpR X (compareOp .NotIn) (fun x y H Q=>∃ c,x=T [c]∧∃ l,y=T l∧Q (.bl (!decide (c∈l))) H):=by
 intro pins s σ H x y v u Q I rx ry h;obtain⟨c,e1,l,e2,q⟩:=h;exact wA pins s σ H x y v u Q I rx ry ⟨tx [c],tx l,e1,e2,by rw[show tx [c]=⟨#[c]⟩ from rfl,StrLaws.found_one,cZ];exact q⟩
namespace RV
variable {prog:Program}{w:World}{A:Around}{E:Value->Shared->Prop}{s:Shared}
end RV
end
section
variable {P:Program}{w:World}{K:ac}{mg:Str->Option Value}{base:Heap}
theorem Fun.okN {x qual:Str}{st:Stmt}{f:Addr}{fd:FuncData}{N ps:List Str}{k:Nat}{sp:Sp}(F:Fun K x qual st f fd)(S:aW N ps (aI st))(len:∀ vs H Q E,sp vs H Q E->vs.length=ps.length)
  (hbody:∀ (cdv:Value) (A:Around) (outer:List Env) (s:Shared) (H:Hp) (vs:List V) (Q:VK) (E:XK),fI k (A.deeper (envOfC qual (aI st) s.heap.objs.size f cdv))->sp vs H Q E ->
   ∃ t,PSs (oT (CX1 P w) P w K mg base N qual (aI st) f cdv A outer s H E).nox (fA st) t∧t { nx:=fun _ H'=>Q .non H',rt:=Q } (mQ N vs) H):cN P w K mg base (CX1 P w) (k+1) f fd ps sp:=by
 obtain⟨oc,od,kV,doc,pm,an,cdv,ct,osl,rfl,lk,hcd⟩:=F.ex;refine Mw lk hcd S len fun A outer s H vs Q E hr hsp=>?_
 obtain⟨t,h,q⟩:=hbody cdv A outer s H vs Q E hr hsp;exact⟨t,h.nox,q⟩
end
open PySem.W in
structure Knd (K:ac)(C:Addr):Prop where
 ga:findIn K (.ref C) "__getattribute__" = some (some (.builtin "BaseException.__getattribute__"))
 hk:findIn K (.ref C) "__getattr__" = some none
 ha:findIn K (.ref C) "__class__" = some (some (.builtin "object.__class__"))
 hn:specialIn K (.builtin "object.__class__") "__get__" = some (some (.builtin "getset_descriptor.__get__"))
 htk:takesIn K (.builtin "object.__class__")=some true
 hm:mroIn K C (.type "object")=some true
 hb:mroIn K C (.type "BaseException")=some true
 cl:(clsIn K C).isSome=true
namespace EX
open PySem.W PySem.Calls PySem.Builtin PySem.Builtin.ObjectAttr PySem.Builtin.Getset_descriptor
variable {prog:Program}{w:World}{A:Around}{E:Value->Shared->Prop}{s:Shared}{K:ac}{a C:Addr}
end EX
section
variable {X:Cx}
theorem iG:∀ {cs:List Addr} {us:List Value},bN (cs.map V.ref) us->us=cs.map Value.ref
 | [],_,r=>by cases r;rfl
 | c::cs,us,r=>by
  rw[a0] at r
  cases r with
  | cons r1 r2 =>
   cases r1;rw[iG r2];rfl
end
section
variable {X:Cx}{es:List Expr}{te:TE}{t:TA}
theorem Mp {c:Const}{j:Nat}{p:Pos}(ha:PE X (.Constant c j p) te)(hr:PA X es t):PA X (.Constant c j p::es) (qD te t):=aA ha hr rfl
theorem wK {x:Str}{p:Pos}(ha:PE X (.Name x p) te)(hr:PA X es t):PA X (.Name x p::es) (qD te t):=aA ha hr rfl
theorem Ru {a b:Expr}{o:Operator}{p:Pos}(ha:PE X (.BinOp a o b p) te)(hr:PA X es t):PA X (.BinOp a o b p::es) (qD te t):=aA ha hr rfl
theorem Rp {as:List Expr}{k}{p:Pos}(ha:PE X (.Tuple as k p) te)(hr:PA X es t):PA X (.Tuple as k p::es) (qD te t):=aA ha hr rfl
def Ho:List ((Int×Nat×Pos)×(Int×Nat×Pos)×Nat×Pos)->List Expr
 | []=>[]
 | ((i,j,p),(i',j',p'),k,q)::r=>.Tuple [.Constant (.int i) j p,.Constant (.int i') j' p'] k q::Ho r
def zS:List (Int×Int)->TA
 | []=>fun _ H Q=>Q [] H
 | (a,b)::r=>fun σ H Q=>∀ t,H t=none->zS r σ (upd H t (.tup [.int a,.int b])) fun vs H1=>Q (.ref t::vs) H1
theorem xM:∀ l:List ((Int×Nat×Pos)×(Int×Nat×Pos)×Nat×Pos),PA X (Ho l) (zS (l.map fun x=>(x.1.1,x.2.1.1)))
 | []=>aD
 | ((i,j,p),(i',j',p'),k,q)::r=>fun pos pins s σ H Q I h=>by
  have h0:PE X (.Tuple [.Constant (.int i) j p,.Constant (.int i') j' p'] k q) (Ql (qD (tC (.int i)) (qD (tC (.int i')) Qh))):=Pt (Mp aG (Mp aG aD));refine Rp (X:=X) h0 (xM r) pos pins s σ H Q I ⟨?_,fun t ht=>h t ht⟩;have hs:sizeLine=16777216:=sizeLine_eq;show 2<=sizeLine;omega
theorem tG:∀ (l:List (Int×Int)) {σ:St} {H:Hp} {Q:List V->Hp->Prop},
  (∀ vs H1,vs.length=l.length->aM H H1->(∀ (j:Nat) (p:Int×Int),l[j]?=some p->∃ t,vs[j]?=some (.ref t)∧H1 t=some (.tup [.int p.1,.int p.2]))->Q vs H1)->zS l σ H Q
 | [],_,H,_,h=>h [] H rfl (aM.refl _) fun j p e=>by cases e
 | (a,b)::r,σ,H,Q,h=>fun t ht=>by
  refine tG r fun vs H1 hl hs hv=>h (.ref t::vs) H1 (by rw[aw,hl,aw]) (fun c o e=>hs c o (by rw[aH (aK e ht)];exact e)) fun j p e=>?_
  cases j with
  | zero =>
   have e':(a,b)=p:=by simpa using e
   subst e';exact⟨t,rfl,hs t _ aB⟩
  | succ j =>
   obtain⟨t',h1,h2⟩:=hv j p (by simpa using e);exact⟨t',by simpa using h1,h2⟩
end
section
variable {X:Cx}{tg:Expr}
end
end L2
namespace L2
open PySem
section
variable {X:Cx}{N':List Str}{scope:Scope}{x:Str}{px:Pos}{elt iter cd:Expr}{pos:Pos}{te:TE}{tc:TT}{wi:TI}
theorem Fk (S:cI X.N N' X.env.scope scope x)(hc:X.calm=true)(hi:PI X (.Name x px) iter wi)(ht:∀ cl C s H fp,PT (bV X N' scope cl C s H fp) cd tc)(he:∀ cl C s H fp,PE (bV X N' scope cl C s H fp) elt te)
  (hs:∀ x,foldedSetIterable iter X.env x=pure x:=by intro _;rfl):PE X (.ListComp elt [⟨.Name x px,iter,[cd],0⟩] scope pos) (Ag wi tc te) :=
 xQ (at':=fun σ Q=>eJ tc te σ Q) S hc hi (fun cl C s H fp=>vA (ht cl C s H fp)) he (fun _ _ _ _ h=>h) hs
theorem jQ {i:Nat}{y:Str}{py spos:Pos}(S:cI X.N N' X.env.scope scope x)(hc:X.calm=true)(hi:PI X (.Name x px) iter wi)(ht:∀ cl C s H fp,PT (bV X N' scope cl C s H fp) cd tc)(he:∀ cl C s H fp,PE (bV X N' scope cl C s H fp) elt te)
  (hN:X.N.Nodup) (hy:X.N[i]?=some y) (hyl:X.env.scope.names.lookup y=some .local)
  (hsw:swapsWith (.ListComp elt [⟨.Name x px,iter,[cd],0⟩] scope pos) (some (.Name y py)) spos.line X.env=pure true:=by rfl)
  (hs:∀ x,foldedSetIterable iter X.env x=pure x:=by intro _;rfl):PS X (.Assign [.Name y py] (.ListComp elt [⟨.Name x px,iter,[cd],0⟩] scope pos) spos) (Fo (Ag wi tc te) (sX i)) :=
 oF (at':=fun σ Q=>eJ tc te σ Q) S hc hi (fun cl C s H fp=>vA (ht cl C s H fp)) he (fun _ _ _ _ h=>h) hN hy hyl hsw hs
end
section
variable {X:Cx}
end
theorem gN {α:Type}(p:α->Bool)(l:List α)(i:Nat)(v:α)(h:l[i]?=some v):(l.take (i+1)).filter p=(l.take i).filter p++(if p v then [v] else []):=by
 rw[br,h,d8];cases hp:p v <;> simp[hp]
theorem jD {α:Type}(p:α->Bool)(l:List α)(i:Nat):((l.take i).filter p).length<=i:=by
 have h1:=b8 p (l.take i);rw[a8] at h1;omega
theorem sP (w:List Nat)(k:Nat):fX w none (some (k:Int))=w.take k:=by
 unfold fX;rw[HT.eY,HT.eS,jb,jh];by_cases h:k<=w.length
 ·rw[eg h]
 ·rw[Nat.min_eq_right (by omega),bv,dm (by omega)]
end L2
set_option autoImplicit false
namespace SR
open PySem PyProof.Rows
def LtR (prog:Program)(w:World)(A:Around)(E:Value->Shared->Prop)(s:Shared)(κ:KeyKind)(kd:SortKind):Prop :=
 ∀ (st:SortSt) (x y:Keyed) (a b:κ.α) (Q:Option Bool->SortSt->Prop),kindOf st=kd->κ.keyOf x.1=some a->κ.keyOf y.1=some b->Q (some (κ.blt a b)) st->wpS (model prog w) A E s (lt' x y) Q st
theorem Nr {prog:Program}{w:World}{A:Around}{E:Value->Shared->Prop}{s:Shared}{κ:KeyKind}{kd:SortKind}
  (h:∀ (E:Value->Shared->Prop) (x y:Value) (a b:κ.α) (Q:Bool->Shared->Prop),κ.keyOf x=some a->κ.keyOf y=some b->Q (κ.blt a b) s->wpAny (model prog w) A (keyLt' kd x y) Q E s):LtR prog w A E s κ kd:=by
 intro st x y a b Q hk ha hb hq;rw[lt'_eq];refine wpS_bind (wpS_get ?_);rw[hk];exact wpS_bind (wpS_lift (wpAny_attempt (h _ x.1 y.1 a b _ ha hb ⟨rfl,wpS_pure hq⟩)))
structure SB (kd:SortKind)(z:Array Keyed)(st:SortSt):Prop where
 prm:(arrOf st).Perm z
 knd:kindOf st=kd
 ffl:failedOf st=none
theorem SB.sz {kd:SortKind}{z:Array Keyed}{st:SortSt}(h:SB kd z st):(arrOf st).size=z.size:=h.prm.size_eq
def Up (κ:KeyKind)(xs:Array Keyed)(l r:Nat):Prop:=∀ i j,l<=i->i<=j->j<r->κ.kle (KK κ xs i) (KK κ xs j)
structure Kp (lo:Nat)(st st':SortSt):Prop where
 low:∀ k,k<lo->(arrOf st')[k]?=(arrOf st)[k]?
 pen:pendingOf st'=pendingOf st
section
variable {prog:Program}{w:World}{A:Around}{E:Value->Shared->Prop}{s:Shared}{z:Array Keyed}{κ:KeyKind}{kd:SortKind}
theorem SB.key {st:SortSt}(h:SB kd z st)(hz:KeysOf κ z){i:Nat}(hi:i<z.size):∃ x p a,(arrOf st)[i]?=some (x,p)∧κ.keyOf x=some a∧KK κ (arrOf st) i=a:=by
 have hi':i<(arrOf st).size:=by rw[h.sz];exact hi
 have hm:(arrOf st)[i]∈z.toList:=(l8.mp h.prm).mem_iff.mp (by simp);obtain⟨a,ha⟩:=hz _ hm;have e:(arrOf st)[i]?=some (arrOf st)[i]:=getElem?_pos _ i hi';exact⟨(arrOf st)[i].1,(arrOf st)[i].2,a,by rw[e],ha,by unfold KK;rw[e];simp[ha]⟩
theorem w_lt {st:SortSt}{i j:Nat}{Q:Option Bool->SortSt->Prop}(hO:LtR prog w A E s κ kd)(hB:SB kd z st)(hz:KeysOf κ z)(hi:i<z.size)(hj:j<z.size)
  (h:Q (some (κ.blt (KK κ (arrOf st) i) (KK κ (arrOf st) j))) st):wpS (model prog w) A E s (ltAt' i j) Q st:=by
 obtain⟨x,p,a,e1,ha,ka⟩:=hB.key hz hi;obtain⟨y,q,b,e2,hb,kb⟩:=hB.key hz hj;rw[ka,kb] at h;rw[ltAt'_eq];refine wpS_bind (wpS_get ?_);dsimp only;rw[elem'_eq,elem'_eq,e1,e2];refine wpS_bind (wpS_pure (wpS_bind (wpS_pure ?_)));exact hO st (x,p) (y,q) a b Q hB.knd ha hb h
def upL (lo a m:Nat):StateT SortSt Sem AscSt :=
 forIn [a:m] ((none,a):AscSt) fun _ c=>do
  let o <- ltAt' (lo+c.snd) (lo+c.snd-1)
  match o with
  | some t=>if t=true then pure (ForInStep.done (none,c.snd)) else pure (ForInStep.yield (none,c.snd+1))
  | _=>pure (ForInStep.done (some none,c.snd))
theorem Pm {xs:Array Keyed}{l:Nat}:Up κ xs l (l+1):=fun i j h1 h2 h3=>by
 obtain rfl:i=j:=by omega
 exact KeyOrd.kle_refl _
theorem Lc {xs:Array Keyed}{l r:Nat}(hr:l<r)(h:Up κ xs l r)(hl:κ.kle (KK κ xs (r-1)) (KK κ xs r)):Up κ xs l (r+1):=fun i j h1 h2 h3=>by
 by_cases hj:j<r
 ·exact h i j h1 h2 hj
 ·obtain rfl:j=r:=by omega
  by_cases hi:i=j
  ·subst hi;exact KeyOrd.kle_refl _
  ·exact KeyOrd.kle_trans (h i (j-1) h1 (by omega) (by omega)) hl
theorem Tt {st:SortSt}{lo a m:Nat}{Q:AscSt->SortSt->Prop}(hO:LtR prog w A E s κ kd)(hz:KeysOf κ z)(hm:lo+m<=z.size)(ha:1<=a)(ham:a<=m)(hB:SB kd z st)(hs:Up κ (arrOf st) lo (lo+a))
  (h:∀ n,a<=n->n<=m->Up κ (arrOf st) lo (lo+n)->(n=m∨κ.klt (KK κ (arrOf st) (lo+n)) (KK κ (arrOf st) (lo+n-1)))->Q (none,n) st):wpS (model prog w) A E s (upL lo a m) Q st:=by
 unfold upL;refine wpS_forRange (I:=fun x c st'=>st'=st∧c=(none,x)∧Up κ (arrOf st) lo (lo+x)) ?sp ?fi ⟨rfl,rfl,hs⟩
 case fi =>
  rintro c st' ⟨rfl,rfl,hu⟩;rw[show max a m=m by omega] at hu ⊢;exact h m ham (af _) hu (.inl rfl)
 case sp =>
  rintro x c st' hax hxm ⟨rfl,rfl,hu⟩
  dsimp only
  refine wpS_bind (w_lt hO hB hz (by omega) (by omega) ?_)
  cases hq:κ.blt (KK κ (arrOf st') (lo+x)) (KK κ (arrOf st') (lo+x-1)) with
  | true =>
   simp only [if_true];exact wpS_pure (h x hax (by omega) hu (.inr hq))
  | false =>
   simp only [cm,if_false];exact wpS_pure ⟨rfl,rfl,Lc (r:=lo+x) (by omega) hu hq⟩
end
end SR
set_option autoImplicit false
namespace SR
open PySem PyProof.Rows
def Sr:Bool->Keyed->Array Keyed->Nat->Nat->Nat->StateT SortSt Sem (Option Nat):=sortPriv% PySem.Builtin.gallop
def bq (left:Bool)(key:Keyed)(arr:Array Keyed)(base:Nat)(i:Nat):StateT SortSt Sem (Option Bool):=do
 let x <- elem' arr (base+i)
 if left then lt' x key else return (<- lt' key x).map (!·)
section
variable {prog:Program}{w:World}{A:Around}{E:Value->Shared->Prop}{s:Shared}{z:Array Keyed}{κ:KeyKind}{kd:SortKind}
end
end SR
set_option autoImplicit false
namespace SR
open PySem PyProof.Rows
def Fi (R:Keyed->Keyed->Prop)(Z:List Keyed)(r:Array Keyed):Prop:=r.toList.Perm Z∧r.toList.Pairwise R
def Hk (κ:KeyKind)(x:Keyed):Prop:=∃ c,κ.keyOf x.1=some c
section
variable {prog:Program}{w:World}{A:Around}{E:Value->Shared->Prop}{s:Shared}{z:Array Keyed}{κ:KeyKind}{kd:SortKind}
end
end SR
set_option autoImplicit false
namespace SR
open PySem PyProof.Rows
section
variable {prog:Program}{w:World}{A:Around}{E:Value->Shared->Prop}{s:Shared}{κ:KeyKind}{kd:SortKind}
end
end SR
set_option autoImplicit false
namespace SR
open PySem PyProof.Rows
def rt (a:Array Keyed)(n:Nat):List Keyed:=(a.toList.take n).reverse
section
variable {prog:Program}{w:World}{A:Around}{E:Value->Shared->Prop}{s:Shared}{κ:KeyKind}{kd:SortKind}
abbrev Se:=Option (Array Keyed)×Nat×Nat×Array Keyed×Nat×Nat×Nat
def hi3 (a b o:Array Keyed)(i j g p q:Nat):StateT SortSt Sem (ForInStep Se):=do
 let x <- elem' a (i-1)
 if (i-1==0)=true then pure (ForInStep.done (some (a.extract 0 (i-1)++b.extract 0 j++(o.push x).reverse),i-1,j,o.push x,g,p,q))
 else if (decide (p<7)&&decide (q<7))=true then pure (ForInStep.done (none,i-1,j,o.push x,g,p,q)) else pure (ForInStep.yield (none,i-1,j,o.push x,g,p,q))
def hi2 (a b o:Array Keyed)(i j g p q:Nat):StateT SortSt Sem (ForInStep Se):=do
 let x <- elem' b j
 if (j==1)=true then pure (ForInStep.done (some (b.extract 0 j++a.extract 0 i++(o.push x).reverse),i,j,o.push x,g,p,q))
 else do
  let u <- elem' a (i-1)
  let z <- Sr true u b 0 j (j-1)
  match z with
  | some y =>
   if j-y>0 then
    if (y==1)=true then pure (ForInStep.done (some (b.extract 0 y++a.extract 0 i++(o.push x++(b.extract y j).reverse).reverse),i,y,o.push x++(b.extract y j).reverse,g,p,j-y))
    else if (y==0)=true then pure (ForInStep.done (some (a.extract 0 i++b.extract 0 y++(o.push x++(b.extract y j).reverse).reverse),i,y,o.push x++(b.extract y j).reverse,g,p,j-y))
    else hi3 a b (o.push x++(b.extract y j).reverse) i y g p (j-y)
   else hi3 a b (o.push x) i j g p (j-y)
  | _=>pure (ForInStep.done (some (a.extract 0 i++b.extract 0 j++(o.push x).reverse),i,j,o.push x,g,p,q))
end
end SR
set_option autoImplicit false
namespace SR
open PySem PyProof.Rows
def sg (xs:Array Keyed)(l n:Nat):List Keyed:=(xs.toList.drop l).take n
section
variable {κ:KeyKind}{kd:SortKind}
end
end SR
set_option autoImplicit false
namespace SR
open PySem PyProof.Rows
section
variable {prog:Program}{w:World}{A:Around}{E:Value->Shared->Prop}{s:Shared}{z:Array Keyed}{κ:KeyKind}{kd:SortKind}
end
end SR
set_option autoImplicit false
namespace SR
open PySem PyProof.Rows
section
variable {κ:KeyKind}{kd:SortKind}
end
section
variable {prog:Program}{w:World}{A:Around}{E:Value->Shared->Prop}{s:Shared}{z:Array Keyed}{κ:KeyKind}{kd:SortKind}
end
end SR
set_option autoImplicit false
namespace SR
open PySem PyProof.Rows PySem.Spec
section
variable {prog:Program}{w:World}{A:Around}{E:Value->Shared->Prop}{s:Shared}
end
end SR
namespace L2
open PySem PyProof.Rows PySem.Spec
section
variable {X:Cx}
theorem oG {x:V}:∀ {xs:List V} {us:List Value},bN xs us->xs.all gP=true->us.countP (eqU x)=xs.countP (fun y=>eqV y x)
 | _,_,.nil,_=>rfl
 | y::xs,u::us,.cons r t,f=>by
  rw[pi,dg] at f;rw[m7,m7,oG t f.2,zE r f.1]
theorem Ew:MtR X "list.count" (fun x xs H Q=>∃ (p:Addr) (ys:List V) (a:V),x = .ref p∧xs=[a]∧SqL X.K H p ys∧ys.all gP=true∧gP a=true∧Q (.int ((ys.countP (fun y=>eqV y a):Nat):Int)) H):=by
 intro pins s σ H x xs v us Q I rx rs h;obtain⟨p,ys,a,rfl,rfl,hq,hf,ha,q⟩:=h;cases rx;obtain⟨u,rfl,ru⟩:=fE rs;obtain⟨its,r,⟨⟨cls,dd,data,sl⟩,n,ho,hc,hdd,hd⟩,hz⟩:=I.list hq;simp only at hc hd;subst hc hd;refine call_meets ju ⟨_,ho,rfl⟩ PySem.F.entry_list_count (PySem.F.args_list_count_2 _ _) (SeqAt.list_countAt p its.toArray n dd sl u (eqU a))
  ⟨ho,fun y hy=>iE ru ha r hf y (by simpa using hy),⟨.int ((ys.countP (fun y=>eqV y a):Nat):Int),H,I.tok _,⟨s.toks,by rw[<- oG r hf]⟩,q⟩⟩
theorem Eu (hc:X.calm=true):dX X (.builtin "sum") (fun xs H Q=>∃ (p:Addr) (ns:List Int),xs=[.ref p]∧SqL X.K H p (ns.map V.int)∧Q (.int ns.sum) H):=by
 intro pins s σ H xs us Q I r h;obtain⟨p,ns,rfl,hq,q⟩:=h;obtain⟨u,rfl,ru⟩:=fE r;cases ru;obtain⟨its,rv,pl,_⟩:=I.list hq;have hia:=zA rv;have hnum:=hia.numsOf;obtain⟨ys,hx⟩:=hia.allInts.items;have hl:=pl.isList;rw[hx] at hl;have e:preSum (numAt ys) ys.size=ns.sum:=by
  rw[preSum_eq,dm (by simp)];rw[<- hnum,show its=its.toArray.toList from by simp,hx,nums_intItems]
 exact sum_intListG (I.ok.hd hc) hl fun h' tk t' hk=>⟨.int ns.sum,H,I.kept hk,⟨t',by rw[e]⟩,q⟩
theorem sR (K:ac)(hK:X.K=K):MtR X "list.count" (fun x xs H Q=>∃ (p:Addr) (ys:List V) (a:V),x = .ref p∧xs=[a]∧SqL K H p ys∧ys.all gP=true∧gP a=true∧Q (.int ((ys.countP (fun y=>eqV y a):Nat):Int)) H):=by
 subst hK;exact Ew
theorem Gg (K:ac)(hK:X.K=K){o e:Expr}{es:List Expr}{to:TE}{t:TA}{name:Str}{apos cpos:Pos}{T id:String}{r:V->List V->Hp->VK->Prop}
  (pa:PlainAttrs T) (slot:Slot T name id) (hty:typeOf (.builtin id)=pure (.type "method_descriptor")) (hm:MtR X id r) (ho:PE X o to) (ha:PA X (e::es) t)
  (b1:attributeBase o name X.env (eval o X.env)=eval o X.env:=by rfl)
  (b2:((backTo cpos (starEach (e::es) X.env)).all (fun x=>!x.1)&&(backToKw cpos (keywordEach [] X.env)).all (fun x=>x.1.isSome)&&decide ((e::es).length+([]:List Keyword).length+(if ([]:List Keyword).isEmpty then 0 else 1)<30))=true:=by rfl)
  (b3:(apos.endLine==cpos.line)=true:=by rfl) (b4:starEach (e::es) X.env=(false,eval e X.env)::starEach es X.env:=by rfl) (b5:(backTo cpos (starEach es X.env)).any (·.1)=false:=by rfl) :
  PE X (.Call (.Attribute o name apos) (e::es) [] cpos) (tBM K T r to t):=by
 subst hK;exact iC pa slot hty hm ho ha b1 b2 b3 b4 b5
end
section
variable (P:Program)(w:World)
end
section
variable {P:Program}{w:World}{H H':Hp}{h h':Heap}{a:Addr}{o:HO}
end
section
variable {P:Program}{w:World}{H:Hp}{h h':Heap}{x e:Addr}{o':HO}
end
section
variable {fs fs' ex ex':List Addr}{H H1 H2:Hp}{h h1 h2 h':Heap}{a x e:Addr}{o:HO}
end
section
variable {X:Cx}{pins:List (Addr×Obj)}{σ:List (Option V)}{H H':Hp}{s:Shared}{h':Heap}
end
section
variable {X:Cx}
variable {a b:Expr}{ta tb:TE}{pos:Pos}
variable {tA tB':TT}{rest:List Expr}
end
section
variable {X:Cx}{pins:List (Addr×Obj)}{σ:St}{H:Hp}{s:Shared}{a:Addr}{xs ys:List V}
end
section
variable {X:Cx}{pins:List (Addr×Obj)}{σ:St}{H:Hp}{s:Shared}{E:Value->Shared->Prop}
end
section
variable {X:Cx}{st:Stmt}{rest:List Stmt}{t u:TS}{e:Expr}{te:TE}{pos:Pos}
end
section
variable {X:Cx}{pos:Pos}
end
section
variable {X:Cx}{tg:Expr}
end
section
variable {X:Cx}{a b c:Expr}{ta tb tc:TE}{pos:Pos}
end
section
variable {prog:Program}{w:World}{A:Around}{E:Value->Shared->Prop}{s:Shared}{K:ac}{x dx C f:Addr}{mA:Str->Option Value}{name:Str}{v:Value}
end
section
variable {P:Program}{w:World}{H H':Hp}{h h':Heap}{a C dx:Addr}{fs fs':List (Str×V)}
end
section
variable {X:Cx}{pins:List (Addr×Obj)}{σ:St}{H:Hp}{s:Shared}{a C dx:Addr}{fs:List (Str×V)}{f:Str}{v:V}{A:Around}{E:Value->Shared->Prop}
end
section
variable {X:Cx}{o e value:Expr}{f:Str}{pos pos' tpos:Pos}{ta tv:TE}
end
section
variable {X:Cx}{pins:List (Addr×Obj)}{σ:St}{H:Hp}{s:Shared}{A:Around}{E:Value->Shared->Prop}{Q:Value->Shared->Prop}{c:Value}{b:Bool}
end
section
variable {X:Cx}{e:Expr}{es:List Expr}{te:TE}{t:TA}{pos:Pos}
end
section
variable {X:Cx}{pins:List (Addr×Obj)}{σ:St}{H:Hp}{s s':Shared}
end
section
variable {X:Cx}{CX:CXT}{k:Nat}{f C:Addr}{fd:FuncData}{ps:List Str}{sp:Sp}{dvs:List V}{ds:List Value}{E:XK}{x m:Str}{p pos apos:Pos}{e o:Expr}{es:List Expr}{ta:TE}{t:TA}
end
section
variable {X:Cx}{CX:CXT}{k:Nat}{f C:Addr}{fd:FuncData}{ps ks:List Str}{sp:Sp}{E:XK}{x m:Str}{p pos apos kpos:Pos}{e o:Expr}{es:List Expr}{kws:List Keyword}{te ta:TE}{t tk:TA}{nm:Option Str}
variable {g:List Value->List Value->List Value}{gV:List V->List V->List V}
end
section
variable {X:Cx}{x:Str}{p pos:Pos}{e:Expr}{es:List Expr}{t:TA}{id T:String}{r:List V->Hp->VK->Prop}
end
section
variable {κ:Type}[DecidableEq κ]
def eM (kvs:List (κ×V))(k:κ):Option V:=(kvs.find? fun kv=>decide (kv.1=k)).map (·.2)
def eD (kvs:List (κ×V))(k:κ)(v:V):List (κ×V) :=
 if (kvs.any fun kv=>decide (kv.1=k))=true then kvs.map (fun kv=>if kv.1=k then (kv.1,v) else kv) else kvs++[(k,v)]
theorem fM {p:κ×V}{r:List (κ×V)}{k:κ}(e:p.1=k):eM (p::r) k=some p.2:=by simp[eM,gz,e]
theorem eT {p:κ×V}{r:List (κ×V)}{k:κ}(e:¬ p.1=k):eM (p::r) k=eM r k:=by simp[eM,gz,e]
theorem wL (k:κ):∀ kvs:List (κ×V),(kvs.any fun kv=>decide (kv.1=k))=(eM kvs k).isSome
 | []=>rfl
 | p::r=>by
  rw[kx];by_cases e:p.1=k
  ·simp only [fM e,decide_eq_true e,Bool.true_or,pz]
  ·rw[eT e,decide_eq_false e,Bool.false_or];exact wL k r
theorem gR (kvs:List (κ×V))(k:κ)(v:V):(eD kvs k v).length<=kvs.length+1:=by
 unfold eD;split
 ·rw[aR];omega
 ·rw[ag,aw,lh];omega
theorem iD.isSome_eq {o:Option V}{u:Option Value}(r:iD o u):o.isSome=u.isSome:=by
 cases o with
 | none=>cases u with
  | none=>rfl
  | some _=>exact (show False from r).elim
 | some _=>cases u with
  | none=>exact (show False from r).elim
  | some _=>rfl
theorem iD.getD {o:Option V}{u:Option Value}{d:V}{d':Value}(r:iD o u)(rd:bF d d'):bF (o.getD d) (u.getD d'):=by
 cases o with
 | none=>cases u with
  | none=>exact rd
  | some _=>exact (show False from r).elim
 | some _=>cases u with
  | none=>exact (show False from r).elim
  | some _=>exact r
theorem KV.val {kvs:List (κ×V)}{vs:List (κ×Value)}(r:KV kvs vs)(k:κ):iD (eM kvs k) (valueAt vs k):=by
 unfold KV at r
 induction r with
 | nil=>exact True.intro
 | @cons p q ps qs h t ih =>
  obtain⟨h1,h2⟩:=h;by_cases e:p.1=k
  ·have e':q.1=k:=h1.symm.trans e
   have b:valueAt (q::qs) k=some q.2:=by simp[valueAt,gz,e']
   rw[fM e,b];exact h2
  ·have e':¬ q.1=k:=fun z=>e (h1.trans z)
   have b:valueAt (q::qs) k=valueAt qs k:=by simp[valueAt,gz,e']
   rw[eT e,b];exact ih
theorem KV.any {kvs:List (κ×V)}{vs:List (κ×Value)}(r:KV kvs vs)(k:κ):(kvs.any fun kv=>decide (kv.1=k))=vs.any fun kv=>decide (kv.1=k):=by
 unfold KV at r
 induction r with
 | nil=>rfl
 | cons h t ih=>rw[kx,kx,ih,h.1]
theorem KV.repl {kvs:List (κ×V)}{vs:List (κ×Value)}(r:KV kvs vs)(k:κ){y:V}{u:Value}(ry:bF y u) :
  KV (kvs.map fun kv=>if kv.1=k then (kv.1,y) else kv) (vs.map fun kv=>if kv.1=k then (kv.1,u) else kv):=by
 unfold KV at r ⊢
 induction r with
 | nil=>exact .nil
 | @cons p q ps qs h t ih =>
  rw[a0,a0];refine .cons ?_ ih;obtain⟨h1,h2⟩:=h;by_cases e:p.1=k
  ·rw[if_pos e,if_pos (h1.symm.trans e)];exact⟨h1,ry⟩
  ·rw[if_neg e,if_neg (fun z=>e (h1.trans z))];exact⟨h1,h2⟩
theorem KV.put {kvs:List (κ×V)}{vs:List (κ×Value)}(r:KV kvs vs)(k:κ){y:V}{u:Value}(ry:bF y u):KV (eD kvs k y) (stored vs k u):=by
 unfold eD stored;rw[r.any k];by_cases e:(vs.any fun kv=>decide (kv.1=k))=true
 ·rw[if_pos e,if_pos e];exact r.repl k ry
 ·rw[if_neg e,if_neg e];exact Paired.snoc r ⟨rfl,ry⟩
theorem KV.keys {kvs:List (κ×V)}{vs:List (κ×Value)}(r:KV kvs vs):kvs.map (·.1)=vs.map (·.1):=by
 unfold KV at r
 induction r with
 | nil=>rfl
 | cons h t ih=>rw[a0,a0,ih,h.1]
theorem KV.length {kvs:List (κ×V)}{vs:List (κ×Value)}(r:KV kvs vs):kvs.length=vs.length:=Paired.length r
end
theorem oC {P:Program}{w:World}{k:Key}{u:Value}(r:bF (kV k) u):(bJ P w).is k u=true:=by
 cases k with
 | inl i=>obtain⟨t,e⟩:=(show ∃ t,u=Value.int i t from r);subst e;exact xG P w i t
 | inr x=>obtain⟨t,e⟩:=(show ∃ t,u=Value.str x t from r);subst e;exact xI P w x t
theorem sC {P:Program}{w:World}:∀ {ks:List Key} {us:List Value},bN (ks.map kV) us->ItemsAre (bJ P w) ks us
 | [],_,r=>by rw[je] at r;cases r;exact .nil
 | k::ks,_,r=>by
  rw[a0] at r
  cases r with
  | cons h t=>exact .cons (oC h) (sC t)
abbrev KT (H:Hp):List (List Key×V)->List (List Key×Addr×Value)->Prop:=Paired fun p q=>p.1=q.1∧H q.2.1=some (.tup (p.1.map kV))∧bF p.2 q.2.2
theorem KT.val {H:Hp}{kvs:List (List Key×V)}{xs:List (List Key×Addr×Value)}(r:KT H kvs xs)(k:List Key):iD (eM kvs k) ((atKey xs k).map (·.2)):=by
 induction r with
 | nil=>exact True.intro
 | @cons p q ps qs h t ih =>
  obtain⟨h1,_,h2⟩:=h;by_cases e:p.1=k
  ·have e':q.1=k:=h1.symm.trans e
   have b:atKey (q::qs) k=some q.2:=by simp[atKey,gz,e']
   rw[fM e,b];exact h2
  ·have e':¬ q.1=k:=fun z=>e (h1.trans z)
   have b:atKey (q::qs) k=atKey qs k:=by simp[atKey,gz,e']
   rw[eT e,b];exact ih
theorem KT.repl {H:Hp}{kvs:List (List Key×V)}{xs:List (List Key×Addr×Value)}(r:KT H kvs xs)(k:List Key){y:V}{u:Value}(ry:bF y u) :
  KT H (kvs.map fun kv=>if kv.1=k then (kv.1,y) else kv) (xs.map (putAt k u)):=by
 induction r with
 | nil=>exact .nil
 | @cons p q ps qs h t ih =>
  rw[a0,a0];refine .cons ?_ ih;obtain⟨h1,h2,h3⟩:=h;unfold putAt;by_cases e:p.1=k
  ·rw[if_pos e,if_pos (h1.symm.trans e)];exact⟨h1,h2,ry⟩
  ·rw[if_neg e,if_neg (fun z=>e (h1.trans z))];exact⟨h1,h2,h3⟩
theorem KT.put {H:Hp}{kvs:List (List Key×V)}{xs:List (List Key×Addr×Value)}(r:KT H kvs xs)(k:List Key){b:Addr}{y:V}{u:Value}(hb:H b=some (.tup (k.map kV)))(ry:bF y u) :
  KT H (eD kvs k y) (storedH xs k b u):=by
 have e:(kvs.any fun kv=>decide (kv.1=k))=(atKey xs k).isSome:=by
  rw[wL,(r.val k).isSome_eq,mj]
 unfold eD storedH;rw[e];by_cases q:(atKey xs k).isSome=true
 ·rw[if_pos q,if_pos q];exact r.repl k ry
 ·rw[if_neg q,if_neg q];exact Paired.snoc r ⟨rfl,hb,ry⟩
theorem KT.keeps {H H':Hp}{kvs:List (List Key×V)}{xs:List (List Key×Addr×Value)}(r:KT H kvs xs)(ht:∀ b ys,H b=some (.tup ys)->H' b=some (.tup ys)):KT H' kvs xs :=
 Paired.mapP r fun _ _ z=>⟨z.1,ht _ _ z.2.1,z.2.2⟩
section
variable {P:Program}{w:World}{H:Hp}{h:Heap}{a:Addr}
theorem Ms {u:HO}(ok:HOk P w H h)(e:Rd H a u):cJ P w H h a u:=e.ok ok
theorem mH {kvs:List (Key×V)}(ok:HOk P w H h)(e:Rd H a (.dK kvs)):kvs.length<=sizeLine∧(a==sysModules)=false∧∃ vs,KV kvs vs∧h.DictOf (bJ P w) a vs :=
 show cJ P w H h a (.dK kvs) from Ms ok e
theorem qQ {kvs:List (Key×V)}(ok:HOk P w H h)(e:H a=some (.dK kvs)):kvs.length<=sizeLine∧(a==sysModules)=false∧∃ vs,KV kvs vs∧h.DictOf (bJ P w) a vs:=mH ok (.inl e)
theorem nJ {ks:List Key}(ok:HOk P w H h)(e:H a=some (.tup (ks.map kV))):(tupleKind (bJ P w)).is h ks a:=by
 obtain⟨_,its,r,o,h1,h2,n,h3⟩:=(show cJ P w H h a (.tup (ks.map kV)) from ok a _ e);exact⟨o,its.toArray,n,h1,h2,h3,by simpa using sC r⟩
theorem pY {kvs:List (List Key×V)}(ok:HOk P w H h)(e:Rd H a (.dT kvs)):kvs.length<=sizeLine∧(a==sysModules)=false ∧
  ∃ xs,KT H kvs xs∧h.DictOfH (tupleKind (bJ P w)) a xs:=by
 obtain⟨z,y,xs,r,o,es,ep,h1,h2,h3,h4,h5⟩:=(show cJ P w H h a (.dT kvs) from Ms ok e);refine⟨z,y,xs,r,o,es,ep,h1,h2,h3,h4,fun x hx=>?_,h5⟩;have all:∀ {l:List (List Key×V)} {m:List (List Key×Addr×Value)},KT H l m->∀ x∈m,(tupleKind (bJ P w)).is h x.1 x.2.1:=by
  intro l m q
  induction q with
  | nil=>intro x hx;exact nomatch hx
  | @cons p q ps qs hq t ih =>
   intro x hx;rcases au.mp hx with e | hx
   ·subst e
    exact nJ ok (by rw[<- hq.1];exact hq.2.1)
   ·exact ih x hx
 exact all r x hx
theorem Qs {kvs:List (List Key×V)}(ok:HOk P w H h)(e:H a=some (.dT kvs)):kvs.length<=sizeLine∧(a==sysModules)=false ∧
 ∃ xs,KT H kvs xs∧h.DictOfH (tupleKind (bJ P w)) a xs:=pY ok (.inl e)
end
def gL (H:Hp)(a:Addr)(y:V)(r:Option V):Prop :=
 (∃ kvs k,Rd H a (.dK kvs)∧y=kV k∧r=eM kvs k)∨∃ kvs k b,Rd H a (.dT kvs)∧y = .ref b∧H b=some (.tup (k.map kV))∧r=eM kvs k
def xD (H:Hp)(a:Addr)(y v:V)(H':Hp):Prop :=
 (∃ kvs k,H a=some (.dK kvs)∧y=kV k∧kvs.length<sizeLine∧H'=upd H a (.dK (eD kvs k v))) ∨
 ∃ kvs k b,H a=some (.dT kvs)∧y = .ref b∧H b=some (.tup (k.map kV))∧kvs.length<sizeLine∧H'=upd H a (.dT (eD kvs k v))
theorem gL.k {H:Hp}{a:Addr}{kvs:List (Key×V)}{k:Key}(e:H a=some (.dK kvs)):gL H a (kV k) (eM kvs k):=.inl ⟨kvs,k,.inl e,rfl,rfl⟩
theorem xD.k {H:Hp}{a:Addr}{kvs:List (Key×V)}{k:Key}{v:V}(e:H a=some (.dK kvs))(hl:kvs.length<sizeLine):xD H a (kV k) v (upd H a (.dK (eD kvs k v))):=.inl ⟨kvs,k,e,rfl,hl,rfl⟩
section
variable {X:Cx}{pins:List (Addr×Obj)}{σ:St}{H:Hp}{s:Shared}{a:Addr}{y v:V}{u r:Value}{o:Option V}{A:Around}{E:Value->Shared->Prop}
theorem Inv.big (I:Inv X pins σ H s):sysModules<s.heap.objs.size:=by
 have h:mainGlobals<s.heap.objs.size:=(I.mod.glob.keeps I.bk).lt;exact qj (by decide) h
theorem Eb {Q:Value->Shared->Prop}(hu:A.units+1<cLine)(I:Inv X pins σ H s)(g:gL H a y (some v))(ry:bF y u)(h:∀ w' s',Inv X pins σ H s'->bF v w'->Q w' s') :
  wpAny (model X.prog X.w) A (getItem (.ref a) u) Q E s:=by
 rcases g with ⟨kvs,k,e,ey,l⟩ | ⟨kvs,k,b,e,ey,eb,l⟩
 ·subst ey
  obtain⟨z,hd,vs,rel,dd⟩:=mH I.hok e;obtain⟨w',hw,rw'⟩:=iD.some_of (v:=v) (o:=valueAt vs k) (by rw[l];exact rel.val k);exact wpAny_getItem_of (oC ry) dd.mapOf hw (h w' _ (I.tok _) rw')
 ·subst ey
  cases (show u=Value.ref b from ry);obtain⟨z,hd,xs,rel,dd⟩:=pY I.hok e;obtain⟨w',hw,rw'⟩:=iD.some_of (v:=v) (o:=(atKey xs k).map (·.2)) (by rw[l];exact rel.val k);obtain⟨p,hp,hp2⟩:=ba.mp hw;refine wpAny_getItem_heap (tupleKind_room_in1 hu) (nJ I.hok eb) dd hp ?_;rw[hp2];exact h w' _ (I.tok _) rw'
theorem So {Q:Value->Shared->Prop}(hu:A.units+1<cLine)(I:Inv X pins σ H s)(g:gL H a y o)(ry:bF y u)(h:∀ s',Inv X pins σ H s'->Q (.bool o.isSome) s') :
  wpAny (model X.prog X.w) A (compareOp .In u (.ref a)) Q E s:=by
 rcases g with ⟨kvs,k,e,ey,l⟩ | ⟨kvs,k,b,e,ey,eb,l⟩
 ·subst ey
  obtain⟨z,hd,vs,rel,dd⟩:=mH I.hok e;refine wpAny_in_of (oC ry) hd dd.mapOf ?_;rw[<- (rel.val k).isSome_eq,<- l];exact h _ (I.tok _)
 ·subst ey
  cases (show u=Value.ref b from ry);obtain⟨z,hd,xs,rel,dd⟩:=pY I.hok e;refine wpAny_in_heap (tupleKind_room_in1 hu) (nJ I.hok eb) hd dd ?_;have q:=(rel.val k).isSome_eq;rw[mj] at q;rw[<- q,<- l];exact h _ (I.tok _)
theorem Lw {Q:Value->Shared->Prop}(hu:A.units+1<cLine)(I:Inv X pins σ H s)(g:gL H a y o)(ry:bF y u)(h:∀ s',Inv X pins σ H s'->Q (.bool (!o.isSome)) s') :
  wpAny (model X.prog X.w) A (compareOp .NotIn u (.ref a)) Q E s:=by
 rcases g with ⟨kvs,k,e,ey,l⟩ | ⟨kvs,k,b,e,ey,eb,l⟩
 ·subst ey
  obtain⟨z,hd,vs,rel,dd⟩:=mH I.hok e;refine wpAny_notIn_of (oC ry) hd dd.mapOf ?_;rw[<- (rel.val k).isSome_eq,<- l];exact h _ (I.tok _)
 ·subst ey
  cases (show u=Value.ref b from ry);obtain⟨z,hd,xs,rel,dd⟩:=pY I.hok e;refine wpAny_notIn_heap (tupleKind_room_in1 hu) (nJ I.hok eb) hd dd ?_;have q:=(rel.val k).isSome_eq;rw[mj] at q;rw[<- q,<- l];exact h _ (I.tok _)
theorem pE {h':Heap}{t':Nat}{ob:HO}(I:Inv X pins σ H s)(mu:Mut (H a))(hs:Heap.SameBut a s.heap h')(he:∃ q,h'.get? a=some q)(new:cJ X.prog X.w (upd H a ob) h' a ob) :
  Inv X pins σ (upd H a ob) { s with heap:=h',toks:=t' } :=
 I.write (x:=a) (e:=a) mu (.inl rfl) (fun b q hb z=>(hs.2 b hb).trans z) he new
theorem vO {P:Program}{w:World}{H':Hp}{h':Heap}{kvs:List (Key×V)}{vs:List (Key×Value)}(z:kvs.length<=sizeLine)(hd:(a==sysModules)=false)(rel:KV kvs vs)(dd:h'.DictOf (bJ P w) a vs) :
 cJ P w H' h' a (.dK kvs):=⟨z,hd,vs,rel,dd⟩
theorem Cz {H':Hp}{Q:Unit->Shared->Prop}(hu:A.units+1<cLine)(I:Inv X pins σ H s)(g:xD H a y v H')(ry:bF y u)(rv:bF v r)(h:∀ s',Inv X pins σ H' s'->Q () s') :
  wpAny (model X.prog X.w) A (setItem (.ref a) u r) Q E s:=by
 rcases g with ⟨kvs,k,e,ey,l,eH⟩ | ⟨kvs,k,b,e,ey,eb,l,eH⟩
 ·subst ey eH
  obtain⟨z,hd,vs,rel,dd⟩:=qQ I.hok e;have hz:vs.length<=sizeLine:=by rw[<- rel.length];exact z
  have hl:(eD kvs k v).length<=sizeLine:=by have:=gR kvs k v;omega
  refine wpAny_setItem_pairs (hsz:=hz) (oC ry) dd fun h' dd' hs=>h _ ?_
  have he:∃ q,h'.get? a=some q:=let ⟨q,_,_,hq,_⟩:=dd';⟨q,hq⟩
  exact pE I (by rw[e];exact True.intro) hs he (vO hl hd (rel.put k rv) dd')
 ·subst ey eH
  cases (show u=Value.ref b from ry);obtain⟨z,hd,xs,rel,dd⟩:=Qs I.hok e;have hz:xs.length<=sizeLine:=by rw[<- Paired.length rel];exact z
  have hl:(eD kvs k v).length<=sizeLine:=by have:=gR kvs k v;omega
  refine wpAny_setItem_heap (hsz:=hz) (tupleKind_room_in1 hu) (nJ I.hok eb) dd fun h' dd' hs=>h _ ?_
  obtain⟨q,es,ep,hq,h2,h3,h4,_,h5⟩:=dd';refine pE I (by rw[e];exact True.intro) hs ⟨q,hq⟩ ⟨hl,hd,_,(rel.put k eb rv).keeps fun c ys ec=>?_,q,es,ep,hq,h2,h3,h4,h5⟩;rw[aH (Rj ec e (fun z=>nomatch z))];exact ec
end
section
variable {X:Cx}{pins:List (Addr×Obj)}{σ:St}{H:Hp}{s:Shared}{a:Addr}{kvs:List (Key×V)}{k:Key}{u:Value}{A:Around}{E:Value->Shared->Prop}
theorem Mj {Q:Value->Shared->Prop}(I:Inv X pins σ H s)(e:Rd H a (.dK kvs))(h:∀ t s',Inv X pins σ H s'->Q (.int kvs.length t) s'):wpAny (model X.prog X.w) A (call (.builtin "len") [.ref a]) Q E s:=by
 obtain⟨z,hd,vs,rel,dd⟩:=mH I.hok e;refine call_len_dict hd dd (by rw[<- rel.length];rw[sizeLine_eq] at z;omega) ?_;rw[<- rel.length];exact h _ _ (I.tok _)
end
def Qu (i:Expr):Prop:=∀ ov iv,subscripted i false ov iv=operate [ov,iv] (getItem ov iv)
theorem Lf {prog:Program}{w:World}{A:Around}{E:Value->Shared->Prop}{s:Shared}{env:Env}{value slice:Expr}{pos:Pos}{T id:String}{Q:Value->Shared->Prop}
  (hl:typeLookup (.type T) "__getitem__" = pure (some (.builtin id))) (hs:Qu slice)
  (h:wpAny (model prog w) A (eval value env) (fun o s₁=>wpAny (model prog w) A (eval slice env) (fun i s₂=>s₂.TypeIs o T∧wpAny (model prog w) A (getItem o i) Q E s₂) E s₁) E s) :
  wpAny (model prog w) A (eval (.Subscript value slice pos) env) Q E s:=by
 refine Subscript_ (wpAny_mono h (fun o s₁ h₁=>wpAny_mono h₁ (fun i s₂ h₂=>?_) fun _ _ x=>x) fun _ _ x=>x);obtain⟨hT,h₂⟩:=h₂;unfold subscriptTail;refine wpAny_bind ?_;rw[getitemInPython_of_ne hT.not_modules];refine wpAny_bind (wpAny_specialOf hT hl ?_);have fin:wpAny (model prog w) A (subscripted slice false o i) (fun r s₃=>wpAny (model prog w) A (letTemporaryGo value o r >>= fun _=>pure r) Q E s₃) E s₂:=by
  rw[hs o i];exact wpAny_operating (wpAny_mono h₂ (fun r s₃ h₃=>wpAny_bind (wpAny_letTemporaryGo (wpAny_pure h₃))) fun _ _ x=>x)
 first
  | exact wpAny_pure (wpAny_bind fin)
  | exact wpAny_bind (wpAny_pure (wpAny_bind fin))
  | exact wpAny_bind fin
theorem wQ {X:Cx}{pins:List (Addr×Obj)}{σ:St}{H:Hp}{s:Shared}{a:Addr}{y:V}{o:Option V}(I:Inv X pins σ H s)(g:gL H a y o):s.TypeIs (.ref a) "dict" := by
 rcases g with ⟨kvs,k,e,_,_⟩ | ⟨kvs,k,b,e,_,_,_⟩
 ·obtain⟨_,_,vs,_,dd⟩:=mH I.hok e
  exact dd.typeIs
 ·obtain⟨_,_,xs,_,dd⟩:=pY I.hok e
  exact dd.typeIs
def Sh (td ty:TE):TE:=fun σ H Q=>td σ H fun x H1=>ty σ H1 fun y H2=>∃ a v,x = .ref a∧gL H2 a y (some v)∧Q v H2
def Tg (ty td:TE):TE:=fun σ H Q=>ty σ H fun y H1=>td σ H1 fun x H2=>∃ a o,x = .ref a∧gL H2 a y o∧Q (.bl o.isSome) H2
def Lb (ty td:TE):TE:=fun σ H Q=>ty σ H fun y H1=>td σ H1 fun x H2=>∃ a o,x = .ref a∧gL H2 a y o∧Q (.bl (!o.isSome)) H2
def Rf (td ty tv:TE):TS:=fun D σ H=>tv σ H fun v H1=>td σ H1 fun x H2=>ty σ H2 fun y H3=>∃ a H4,x = .ref a∧xD H3 a y v H4∧D.nx σ H4
section
variable {X:Cx}{o i e value:Expr}{pos pos' tpos:Pos}{td ty tv:TE}
theorem gS (hu:X.A.units+1<cLine)(ho:PE X o td)(hi:PE X i ty)(hs:Qu i):PE X (.Subscript o i pos) (Sh td ty):=by
 intro pins s σ H Q I h;refine Lf PySem.F.slot_dict_getitem.lookup hs (thn (ho pins s σ H _ I h) fun u s1 ⟨x,H1,I1,rx,q1⟩=>thn (hi pins s1 σ H1 _ I1 q1) fun iv s2 ⟨y,H2,I2,ry,a,v,ex,g,q2⟩=>?_);subst ex;obtain rfl:u=Value.ref a:=rx;exact⟨wQ I2 g,Eb hu I2 g ry fun w' s3 I3 rw'=>⟨v,H2,I3,rw',q2⟩⟩
theorem Fd (hu:X.A.units+1<cLine)(hi:PE X i ty)(ho:PE X o td):PC X .In i o (Tg ty td):=by
 intro pins s σ H Q I h;refine thn (hi pins s σ H _ I h) fun iv s1 ⟨y,H1,I1,ry,q1⟩=>thn (ho pins s1 σ H1 _ I1 q1) fun u s2 ⟨x,H2,I2,rx,a,ov,ex,g,q2⟩=>?_
 subst ex;obtain rfl:u=Value.ref a:=rx;exact So hu I2 g ry fun s3 I3=>⟨.bl ov.isSome,H2,I3,rfl,q2⟩
theorem Cu (hu:X.A.units+1<cLine)(hi:PE X i ty)(ho:PE X o td):PC X .NotIn i o (Lb ty td):=by
 intro pins s σ H Q I h;refine thn (hi pins s σ H _ I h) fun iv s1 ⟨y,H1,I1,ry,q1⟩=>thn (ho pins s1 σ H1 _ I1 q1) fun u s2 ⟨x,H2,I2,rx,a,ov,ex,g,q2⟩=>?_
 subst ex;obtain rfl:u=Value.ref a:=rx;exact Lw hu I2 g ry fun s3 I3=>⟨.bl (!ov.isSome),H2,I3,rfl,q2⟩
theorem pM (hu:X.A.units+1<cLine)(ho:PE X o td)(hi:PE X i ty)(hv:PE X value tv)(hs:swapsWith value (some (.Subscript o i pos')) pos.line X.env=pure false) :
  PS X (.Assign [.Subscript o i pos'] value pos) (Rf td ty tv):=by
 intro pins s σ H D I h;refine wpAny_Assign_Subscript (thn (hv pins s σ H _ I h) fun r s1 ⟨v,H1,I1,rv,q1⟩=>thn (ho pins s1 σ H1 _ I1 q1) fun u s2 ⟨x,H2,I2,rx,q2⟩=>thn (hi pins s2 σ H2 _ I2 q2) fun iv s3 ⟨y,H3,I3,ry,a,H4,ex,g,q3⟩=>?_) hs;subst ex;obtain rfl:u=Value.ref a:=rx;exact Cz hu I3 g ry rv fun s4 I4=>⟨σ,H4,I4,q3⟩
end
theorem xV {P:Program}{w:World}{H:Hp}(h:Heap)(hb:sysModules<h.objs.size):cJ P w H (h.push { cls:=.type "dict",data:=.dict #[] }) h.objs.size (.dK []) :=
 ⟨bi _,beq_eq_false_iff_ne.mpr (Ne.symm (ay hb)),[],.nil,Heap.DictOf.new h⟩
def Ol:TE:=fun _ H Q=>∀ p,H p=none->Q (.ref p) (upd H p (.dK []))
section
variable {X:Cx}{pos:Pos}
theorem mI:PE X (.Dict [] [] pos) Ol:=fun pins s σ H Q I h =>
 wpAny_Dict_empty ⟨.ref s.heap.objs.size,_,I.laid (a:=s.heap.objs.size) (o:=.dK []) (t':=s.toks) (fun _ _ q=>Heap.get?_push_of_some _ q) (af _) (xV s.heap I.big),rfl,h _ (I.hok.fresh (af _))⟩
end
def vF:List (TE×TE)->St->Hp->(List (V×V)->Hp->Prop)->Prop
 | [],_,H,Q=>Q [] H
 | (tk,tv)::r,σ,H,Q=>tk σ H fun x H1=>tv σ H1 fun y H2=>vF r σ H2 fun ps H3=>Q ((x,y)::ps) H3
abbrev VV:List (V×V)->List (Value×Value)->Prop:=Paired fun p q=>bF p.1 q.1∧bF p.2 q.2
def PPs (X:Cx)(pos:Pos)(keys:List (Option Expr))(values:List Expr)(trs:List (TE×TE)):Prop :=
 ∀ (pins:List (Addr×Obj)) (s:Shared) (σ:St) (H:Hp) (Q:List (V×V)->Hp->Prop),Inv X pins σ H s->vF trs σ H Q ->
  wpAny (model X.prog X.w) X.A (evalPairs (pairTrees keys values X.env pos)) (fun vs s'=>∃ ps H',Inv X pins σ H' s'∧VV ps vs∧Q ps H') X.xe s
theorem Ke {X:Cx}{pos:Pos}:PPs X pos [] [] []:=fun pins s σ H Q I h=>pairTrees_nil_walk ⟨[],H,I,.nil,h⟩
theorem Jc {X:Cx}{pos:Pos}{k v:Expr}{ks:List (Option Expr)}{vs:List Expr}{tk tv:TE}{trs:List (TE×TE)}(hk:PE X k tk)(hv:PE X v tv)(hr:PPs X pos ks vs trs) :
  PPs X pos (some k::ks) (v::vs) ((tk,tv)::trs):=fun pins s σ H Q I h =>
 pairTrees_cons_walk (thn (hk pins s σ H _ I h) fun u s1 ⟨x,H1,I1,rx,q1⟩=>thn (hv pins s1 σ H1 _ I1 q1) fun w2 s2 ⟨y,H2,I2,ry,q2⟩ =>
  thn (hr pins s2 σ H2 _ I2 q2) fun ws s3 ⟨ps,H3,I3,rel,q3⟩=>⟨(x,y)::ps,H3,I3,.cons ⟨rx,ry⟩ rel,q3⟩)
def nT (kvs more:List (Key×V)):List (Key×V):=more.foldl (fun acc kv=>eD acc kv.1 kv.2) kvs
theorem KV.merge:∀ {more:List (Key×V)} {rs:List (Key×Value)} {kvs:List (Key×V)} {vs:List (Key×Value)},KV more rs->KV kvs vs->KV (nT kvs more) (merged vs rs):=by
 intro more rs kvs vs r;unfold KV at r
 induction r generalizing kvs vs with
 | nil=>intro q;exact q
 | @cons p q ps qs h t ih =>
  intro r0;have e:KV (eD kvs p.1 p.2) (stored vs q.1 q.2):=by
   have:=r0.put p.1 h.2
   rw[<- h.1];exact this
  exact ih e
theorem lB:∀ (more kvs:List (Key×V)),(nT kvs more).length<=kvs.length+more.length
 | [],kvs=>by show kvs.length<=kvs.length+0;omega
 | p::r,kvs=>by
  have h1:=lB r (eD kvs p.1 p.2);have h2:=gR kvs p.1 p.2;show (nT (eD kvs p.1 p.2) r).length<=_;rw[aw];omega
theorem rG {P:Program}{w:World}:∀ {kvs:List (Key×V)} {ws:List (Value×Value)},VV (kvs.map fun kv=>(kV kv.1,kv.2)) ws->∃ rs,Carries (bJ P w) ws rs∧KV kvs rs
 | [],_,r=>by rw[je] at r;cases r;exact⟨[],True.intro,.nil⟩
 | p::kvs,_,r=>by
  rw[a0] at r
  cases r with
  | @cons a b as bs h t =>
   obtain⟨rs,c,q⟩:=rG (P:=P) (w:=w) t;obtain⟨b1,b2⟩:=b;exact⟨(p.1,b2)::rs,⟨oC h.1,rfl,c⟩,.cons ⟨rfl,h.2⟩ q⟩
def Qy (trs:List (TE×TE)):TE:=fun σ H Q=>∀ p,H p=none->vF trs σ (upd H p (.dK [])) fun ps H2=>H2 p=some (.dK [])∧∃ kvs:List (Key×V),ps=kvs.map (fun kv=>(kV kv.1,kv.2))∧kvs.length<=15∧Q (.ref p) (upd H2 p (.dK (nT [] kvs)))
theorem Kf {X:Cx}{pos:Pos}{keys:List (Option Expr)}{values:List Expr}{trs:List (TE×TE)}(h:PPs X pos keys values trs)(hall:keys.all (·.isSome)=true)(hl:keys.length=values.length)(h0:keys≠[])
  (h15:keys.length<=15):PE X (.Dict keys values pos) (Qy trs):=by
 intro pins s σ H Q I q;have hn:=I.hok.fresh (af s.heap.objs.size);have I1:=I.laid (a:=s.heap.objs.size) (o:=.dK []) (h':=s.heap.push { cls:=.type "dict",data:=.dict #[] }) (t':=s.toks) (fun _ _ q=>Heap.get?_push_of_some _ q) (af _) (xV s.heap I.big)
 refine wpAny_Dict_walk (knd:=bJ X.prog X.w) hall hl h0 h15 (thn (h pins _ σ _ _ I1 (q _ hn)) fun ws s2 ⟨ps,H2,I2,rel,e,kvs,ep,lk,q2⟩=>?_);subst ep;obtain⟨rs,c,rk⟩:=rG (P:=X.prog) (w:=X.w) rel;obtain⟨z,hd,vs0,r0,dd⟩:=qQ I2.hok e;cases r0;refine⟨rs,c,dd,fun h' dd' hs=>⟨.ref s.heap.objs.size,_,?_,rfl,q2⟩⟩;have hz:(nT [] kvs).length<=sizeLine:=by
  have h1:=lB kvs [];rw[lh] at h1;rw[sizeLine_eq];omega
 have he:∃ q,h'.get? s.heap.objs.size=some q:=let ⟨q,_,_,hq,_⟩:=dd';⟨q,hq⟩
 exact pE I2 (by rw[e];exact True.intro) hs he (vO hz hd (rk.merge .nil) dd')
structure M1 (X:Cx)(o:Expr)(m:Str)(apos:Pos)(e:Expr)(cpos:Pos):Prop where
 base:attributeBase o m X.env (eval o X.env)=eval o X.env
 few:((backTo cpos (starEach [e] X.env)).all (fun x=>!x.1)&&(backToKw cpos (keywordEach [] X.env)).all (fun x=>x.1.isSome)
  && decide (([e]:List Expr).length+([]:List Keyword).length+(if ([]:List Keyword).isEmpty then 0 else 1)<30))=true
 line:(apos.endLine==cpos.line)=true
 trees:backTo cpos (starEach [e] X.env)=[(false,eval e X.env)]
structure M2 (X:Cx)(o:Expr)(m:Str)(apos:Pos)(e f:Expr)(cpos:Pos):Prop where
 base:attributeBase o m X.env (eval o X.env)=eval o X.env
 few:((backTo cpos (starEach [e,f] X.env)).all (fun x=>!x.1)&&(backToKw cpos (keywordEach [] X.env)).all (fun x=>x.1.isSome)
  && decide (([e,f]:List Expr).length+([]:List Keyword).length+(if ([]:List Keyword).isEmpty then 0 else 1)<30))=true
 line:(apos.endLine==cpos.line)=true
 trees:backTo cpos (starEach [e,f] X.env)=[(false,eval e X.env),(false,eval f X.env)]
def IsD (H:Hp)(a:Addr):Prop:=(∃ kvs,Rd H a (.dK kvs))∨∃ kvs,Rd H a (.dT kvs)
theorem Og {X:Cx}{pins:List (Addr×Obj)}{σ:St}{H:Hp}{s:Shared}{a:Addr}(I:Inv X pins σ H s)(d:IsD H a) :
  s.TypeIs (.ref a) "dict" ∧ (∀ b,Value.ref a = .ref b->∃ ob,s.heap.get? b=some ob∧ob.dict=none)∧(a==sysModules)=false:=by
 rcases d with ⟨kvs,e⟩ | ⟨kvs,e⟩
 ·obtain⟨_,hd,vs,_,dd⟩:=mH I.hok e
  refine⟨dd.typeIs,fun b q=>?_,hd⟩;cases q;obtain⟨ob,_,_,h1,h2,_⟩:=dd;exact⟨ob,h1,h2.2.1⟩
 ·obtain⟨_,hd,xs,_,dd⟩:=pY I.hok e
  refine⟨dd.typeIs,fun b q=>?_,hd⟩;cases q;obtain⟨ob,_,_,h1,h2,_⟩:=dd;exact⟨ob,h1,h2.2.1⟩
section
variable {X:Cx}{pins:List (Addr×Obj)}{σ:St}{H:Hp}{s:Shared}{a:Addr}{y d:V}{u r:Value}{o:Option V}{A:Around}{E:Value->Shared->Prop}
theorem Nt {Q:Value->Shared->Prop}(hu:A.units+1<cLine)(I:Inv X pins σ H s)(g:gL H a y o)(ry:bF y u)(rd:bF d r)(h:∀ w' s',Inv X pins σ H s'->bF (o.getD d) w'->Q w' s') :
  wpAny (model X.prog X.w) A (call (.builtin "dict.get") [.ref a,u,r]) Q E s:=by
 rcases g with ⟨kvs,k,e,ey,l⟩ | ⟨kvs,k,b,e,ey,eb,l⟩
 ·subst ey
  obtain⟨z,hd,vs,rel,dd⟩:=mH I.hok e;refine call_meetsIn ke dd.typeIs ny (ng _ _ _) (meets_dict_get_default (bJ X.prog X.w) a (oC ry) hd r) ⟨_,dd.mapOf,h _ _ (I.tok _) ?_⟩;rw[l];exact (rel.val k).getD rd
 ·subst ey
  cases (show u=Value.ref b from ry);obtain⟨z,hd,xs,rel,dd⟩:=pY I.hok e;refine call_meetsIn ke dd.typeIs ny (ng _ _ _) (meetsH_dict_get_default (tupleKind (bJ X.prog X.w)) a b hd r) ⟨tupleKind_room_in1 hu,k,xs,nJ I.hok eb,dd,h _ _ (I.tok _) ?_⟩;rw[l];exact (rel.val k).getD rd
end
def Pe (td ty tx:TE):TE:=fun σ H Q=>td σ H fun x H1=>∃ a,x = .ref a∧IsD H1 a∧ty σ H1 fun y H2=>tx σ H2 fun z H3=>∃ o,gL H3 a y o∧Q (o.getD z) H3
section
variable {X:Cx}{o e f:Expr}{apos cpos:Pos}{td ty tx:TE}
theorem Ih (hu:X.A.units+1<cLine)(ho:PE X o td)(he:PE X e ty)(hf:PE X f tx)(m:M2 X o "get" apos e f cpos):PE X (.Call (.Attribute o "get" apos) [e,f] [] cpos) (Pe td ty tx):=by
 intro pins s σ H Q I h;refine wpAny_Call_method m.base m.few m.line nh ke PySem.F.type_dict_get (thn (ho pins s σ H _ I h) fun u s1 ⟨x,H1,I1,rx,a,ex,d,q1⟩=>?_);subst ex;obtain rfl:u=Value.ref a:=rx;obtain⟨t1,t2,_⟩:=Og I1 d;refine⟨t1,t2,?_⟩;rw[m.trees];refine Calls.callWith_builtin rfl (Calls.evalArgs_plain (Calls.spliced_cons (thn (he pins s1 σ H1 _ I1 q1) fun iv s2 ⟨y,H2,I2,ry,q2⟩ =>
  Calls.spliced_cons (thn (hf pins s2 σ H2 _ I2 q2) fun fv s3 ⟨z,H3,I3,rz,ov,g,q3⟩=>Calls.spliced_nil ?_))))
 exact Nt hu I3 g ry rz fun w' s4 I4 rw'=>⟨_,H3,I4,rw',q3⟩
end
section
variable {X:Cx}{pins:List (Addr×Obj)}{σ:St}{H:Hp}{s:Shared}{a:Addr}{kvs:List (Key×V)}{A:Around}{E:Value->Shared->Prop}
theorem Iz {Q:Value->Shared->Prop}(I:Inv X pins σ H s)(e:Rd H a (.dK kvs))(h:∀ p s',H p=none->Inv X pins σ (upd H p (.dK kvs)) s'->Q (.ref p) s'):wpAny (model X.prog X.w) A (call (.type "dict") [.ref a]) Q E s:=by
 obtain⟨z,hd,vs,rel,dd⟩:=mH I.hok e;refine kt_call_dict hd dd (by rw[<- rel.length];exact z) fun h' dd' hs=>?_
 refine h _ _ (I.hok.fresh (af _)) (I.laid (a:=s.heap.objs.size) (o:=.dK kvs) (t':=s.toks) (fun b q hq=>?_) (af _) (vO z (beq_eq_false_iff_ne.mpr (Ne.symm (ay I.big))) rel dd'));exact (hs.2 b (ay (Heap.lt_size hq))).trans (Heap.get?_push_of_some _ hq)
end
section
variable {X:Cx}{pins:List (Addr×Obj)}{σ:St}{H:Hp}{s:Shared}{a:Addr}{y:V}{u:Value}{A:Around}{E:Value->Shared->Prop}
end
end L2
namespace Att
open PySem PySem.W PySem.Calls PyProof.Rows
section
variable {prog:Program}{w:World}{A:Around}{E:Value->Shared->Prop}{s:Shared}{K:Frag}
end
end Att
namespace L2
open PySem PySem.Spec PyProof.Rows
section
variable {P:Program}{w:World}{K:ac}{mg:Str->Option Value}{base:Heap}
end
section
variable {X:Cx}
theorem kQ:dX X (.builtin "len") (fun xs H Q=>∃ a kvs,xs=[V.ref a]∧H a=some (.dK kvs)∧Q (.int kvs.length) H):=by
 intro pins s σ H xs us Q I r h;obtain⟨a,kvs,rfl,ha,q⟩:=h;obtain⟨u,rfl,ru⟩:=fE r;cases ru;exact Mj I (.inl ha) fun t s' I'=>⟨.int kvs.length,H,I',⟨t,rfl⟩,q⟩
end
section
variable {κ:Type}[DecidableEq κ]
end
namespace RT
def obj (x:Str)(t:Tok)(i:Int):Obj:={ cls:=.type "reversed",data:=.fields #[.str x t,rawInt i] }
def Is (h:Heap)(a:Addr)(x:Str)(t:Tok)(i:Int):Prop:=∃ o,h.get? a=some o∧o.cls = .type "reversed" ∧ o.data = .fields #[.str x t,rawInt i]
section
variable {prog:Program}{w:World}{A:Around}{E:Value->Shared->Prop}{s:Shared}
end
end RT
section
variable {X:Cx}
end
structure Cam (P:Program)(w:World)(K:ac)(mg:Str->Option Value)(base:Heap)(CX:CXT)(x:Str)(C:Addr)(k:Nat)(ps:List Str)(sp:Sp):Prop where
 ex:∃ (f:Addr) (fd:FuncData),cN P w K mg base CX k f fd ps sp∧Mk K C f∧mg x=some (.ref C)∧lI K fd ps []
section
variable {X:Cx}
theorem Pw {CX:CXT}{x:Str}{C:Addr}{j k:Nat}{ps:List Str}{sp:Sp}{E:XK}{e:Expr}{es:List Expr}{t:TA}{p pos:Pos}(c:Cam X.prog X.w X.K X.mg X.base CX x C j ps sp)(hr:fI k X.A)(hx:jY CX X E)(ha:PA X (e::es) t)
  (hjk:j+1<=k:=by decide) (hg:Gl X x:=by rfl) (b1:(x==("__debug__" : Str))=false:=by decide) (b2:starEach (e::es) X.env=(false,eval e X.env)::starEach es X.env:=by rfl) (b3:(backTo pos (starEach es X.env)).any (·.1)=false:=by rfl) :
  PE X (.Call (.Name x p) (e::es) [] pos) (Nb C sp [] E t):=by
 obtain⟨f,fd,F,M,hm,hb⟩:=c.ex;exact Lh M F (hr.mono hjk) hg hm hb .nil hx ha b1 b2 b3
end
namespace SE
section
variable {prog:Program}{w:World}{A:Around}{E:Value->Shared->Prop}{s:Shared}
end
end SE
section
variable {X:Cx}
end
end L2
namespace ST
open PySem PySem.SetTable
def it (M:Nat):Nat->Nat->Nat
 | 0,i=>i
 | s+1,i=>it M s ((i*5+1) % M)
theorem tZ (M:Nat):∀ s t i,it M (s+t) i=it M t (it M s i)
 | 0,t,i=>by rw[jy];rfl
 | s+1,t,i=>by rw[p8];exact tZ M s t _
def Ba (M:Nat):Nat->Nat->List Nat
 | 0,_=>[]
 | s+1,i=>i::Ba M s ((i*5+1) % M)
theorem yB {M:Nat}:∀ {n i j:Nat},j∈Ba M n i->∃ s,s<n∧it M s i=j
 | n+1,i,j,h=>by
  rw[Ba,au] at h;rcases h with h | h
  ·exact⟨0,by omega,h.symm⟩
  ·obtain⟨s,h1,h2⟩:=yB h
   exact⟨s+1,by omega,h2⟩
def full (M:Nat):Bool:=it M M 0==0&&(cu M).all fun j=>(Ba M M 0).contains j
theorem Do {M:Nat}(h:full M=true){a j:Nat}(ha:a<M)(hj:j<M):∃ s,s<M∧it M s a=j:=by
 rw[full,dg,beq_iff_eq,dh] at h;have hit:∀ x,x<M->∃ s,s<M∧it M s 0=x:=fun x hx=>yB (by have:=h.2 x (de.mpr hx);simpa using this)
 obtain⟨s0,h0,e0⟩:=hit a ha;obtain⟨s1,h1,e1⟩:=hit j hj;rcases fm s1 s0 with z | z
 ·refine⟨M-s0+s1,by omega,?_⟩
  have w:it M (M-s0) a=0:=by rw[<- e0,<- tZ,show s0+(M-s0)=M by omega,h.1]
  rw[tZ,w,e1]
 ·refine⟨s1-s0,by omega,?_⟩
  rw[<- e0,<- tZ,show s0+(s1-s0)=s1 by omega,e1]
def rO (M:Nat):Prop:=M=8∨M=16∨M=32∨M=64∨M=128∨M=256∨M=512
theorem rO.full {M:Nat}(h:rO M):full M=true:=by
 rcases h with rfl | rfl | rfl | rfl | rfl | rfl | rfl <;> decide +kernel
theorem rO.pos {M:Nat}(h:rO M):8<=M:=by
 rcases h with rfl | rfl | rfl | rfl | rfl | rfl | rfl <;> decide
def lp (mask:Nat):Nat->Nat->Nat->Nat×Nat
 | 0,i,p=>(i,p)
 | s+1,i,p=>lp mask s (leap mask i p).1 (leap mask i p).2
theorem Fc (mask:Nat):∀ s t i p,lp mask (s+t) i p=lp mask t (lp mask s i p).1 (lp mask s i p).2
 | 0,t,i,p=>by rw[jy];rfl
 | s+1,t,i,p=>by rw[p8];exact Fc mask s t _ _
theorem Qr (mask:Nat):∀ s i p,(lp mask s i p).2=p/32 ^ s
 | 0,i,p=>by rw[Nat.pow_zero,Nat.div_one];rfl
 | s+1,i,p=>by
  show (lp mask s _ (p/32)).2=_;rw[Qr mask s,Nat.div_div_eq_div_mul,jf,dw]
theorem Mo (mask:Nat):∀ s i,(lp mask s i 0).1=it (mask+1) s i
 | 0,i=>rfl
 | s+1,i=>by
  show (lp mask s ((i*5+1+0/32) % (mask+1)) (0/32)).1=_;rw[Nat.zero_div,qm];exact Mo mask s _
theorem Mv (mask:Nat):∀ s i p,i<mask+1->(lp mask s i p).1<mask+1
 | 0,i,p,h=>h
 | s+1,i,p,h=>Mv mask s _ _ (kl _ (n0 _))
theorem Dy (mask i:Nat):i<=runEnd mask i:=by
 unfold runEnd;split <;> omega
theorem sF {mask:Nat}{owner:Array (Option Nat)}:∀ {fuel i p:Nat},layClean.free mask owner fuel i p=none->∀ s,s<fuel->(owner.getD (lp mask s i p).1 (some 0)).isNone=false
 | fuel+1,i,p,h,s,hs=>by
  rw[layClean.free] at h;split at h
  ·cases h
  ·rename_i hf
   cases s with
   | zero =>
    have:=List.find?_eq_none.mp hf 0 (de.mpr (by have:=Dy mask i;omega))
    rw[qm] at this;exact j5.mpr this
   | succ s=>exact sF h s (by omega)
theorem sV {mask:Nat}{owner:Array (Option Nat)}:∀ {fuel i p j:Nat},layClean.free mask owner fuel i p=some j->(owner.getD j (some 0)).isNone=true
 | fuel+1,i,p,j,h=>by
  rw[layClean.free] at h;split at h
  ·rename_i k hf
   cases h
   have:=List.find?_some hf
   exact this
  ·exact sV h
theorem Mc {mask:Nat}{owner:Array (Option Nat)}{i p j:Nat}(hM:rO (mask+1))(hi:i<mask+1)(hp:p<2 ^ 64)(hj:j<mask+1)(he:(owner.getD j (some 0)).isNone=true) :
  ∃ k,layClean.free mask owner (turns mask) i p=some k∧(owner.getD k (some 0)).isNone=true:=by
 cases hf:layClean.free mask owner (turns mask) i p with
 | some k=>exact⟨k,rfl,sV hf⟩
 | none =>
  exfalso;have h13:(lp mask 13 i p).2=0:=by
   rw[Qr];exact Nat.div_eq_of_lt (qj hp (by decide))
  obtain⟨s,hs,e⟩:=Do hM.full (Mv mask 13 i p hi) hj;have z:=sF hf (13+s) (by unfold turns;omega);rw[Fc,h13,Mo,e,he] at z;cases z
theorem rF {α β:Type}{f g:α->Option β}:∀ l:List α,(∀ i∈l,f i=g i)->l.filterMap f=l.filterMap g
 | [],_=>rfl
 | x::l,h=>by
  have ih:=rF l fun i hi=>h i (ai _ hi)
  rw[gl,gl,h x (am ..),ih]
def vals (N:Nat)(f:Nat->Option Nat):List Nat:=(cu N).filterMap f
theorem Ik {f g:Nat->Option Nat}{j v:Nat}(hf:f j=none)(hg:g j=some v)(he:∀ i,i≠j->g i=f i):∀ l:List Nat,l.Nodup->j∈l->(l.filterMap g).Perm (v::l.filterMap f)
 | x::l,nd,hm=>by
  rw[b9] at nd;by_cases e:x=j
  ·subst e
   rw[ic hg,jo hf]
   have:l.filterMap g=l.filterMap f:=rF l fun i hi=>he i fun z=>nd.1 (z▸hi)
   rw[this]
  ·have hm':j∈l:=by
    rcases au.mp hm with z | z
    ·exact absurd z.symm e
    ·exact z
   have ih:=Ik hf hg he l nd.2 hm';have hx:=he x e
   cases h:f x with
   | none=>rw[jo (hx.trans h),jo h];exact ih
   | some y =>
    rw[ic (hx.trans h),ic h];exact (ih.cons y).trans (sd ..)
theorem Bw {f:Nat->Option Nat}:∀ l:List Nat,(∀ i∈l,(f i).isNone=false)->(l.filterMap f).length=l.length
 | [],_=>rfl
 | x::l,h=>by
  have hx:=h x (am ..)
  cases e:f x with
  | none=>rw[e] at hx;cases hx
  | some y=>rw[ic e,aw,aw,Bw l fun i hi=>h i (ai _ hi)]
def vD (mask:Nat)(owner:Array (Option Nat))(k:Nat):Prop:=owner.size=mask+1∧(vals (mask+1) fun j=>owner.getD j none).Perm (cu k)
theorem getD_some {owner:Array (Option Nat)}{j:Nat}(h:j<owner.size):owner.getD j (some 0)=owner.getD j none:=by
 simp[sh,h]
theorem Kv {mask:Nat}(hM:rO (mask+1)){owner:Array (Option Nat)}{k:Nat}(g:vD mask owner k)(hk:k<mask+1)(h:Int) :
  ∃ j,layClean.free mask owner (turns mask) (bits h % (mask+1)) (bits h)=some j∧vD mask (owner.setIfInBounds j (some k)) (k+1):=by
 obtain⟨hs,hp⟩:=g;obtain⟨j0,hj0,he0⟩:∃ j,j<mask+1∧(owner.getD j (some 0)).isNone=true:=by
  apply cc;intro hno
  have:=Bw (f:=fun j=>owner.getD j none) (cu (mask+1)) fun i hi=>by
   have hi':=de.mp hi;have e:=getD_some (owner:=owner) (j:=i) (by omega)
   cases z:(owner.getD i none).isNone with
   | false=>rfl
   | true=>exact absurd ⟨i,hi',by rw[e];exact z⟩ hno
  rw[gi] at this;have h2:=hp.length_eq;rw[gi] at h2;unfold vals at h2;omega
 obtain⟨j,e1,e2⟩:=Mc hM (i:=bits h % (mask+1)) (p:=bits h) (kl _ (n0 _)) (by unfold bits;omega) hj0 he0;have hj:j<owner.size:=by
  rcases fm j owner.size with z | z
  ·exact z
  ·rw[sh,dif_neg (by omega)] at e2
   cases e2
 refine⟨j,e1,by rw[Array.size_setIfInBounds];exact hs,?_⟩;have hf:(fun i=>owner.getD i none) j=none:=by
  show owner.getD j none=none;rw[getD_some hj] at e2
  cases z:owner.getD j none with
  | none=>rfl
  | some y=>rw[z] at e2;cases e2
 have hg:(fun i=>(owner.setIfInBounds j (some k)).getD i none) j=some k:=by
  show (owner.setIfInBounds j (some k)).getD j none=some k;simp[sh,hj]
 have q:=Ik hf hg (fun i hi=>by
  show (owner.setIfInBounds j (some k)).getD i none=owner.getD i none;rw[fe,fe,Array.getElem?_setIfInBounds_ne (Ne.symm hi)]) (cu (mask+1)) List.nodup_range (de.mpr (by omega))
 refine q.trans ?_;rw[show cu (k+1)=cu k++[k] from List.range_succ];exact (hp.cons k).trans (List.perm_append_singleton ..).symm
theorem Ff {mask:Nat}(hM:rO (mask+1)):∀ (hs:List Int) (owner:Array (Option Nat)) (k:Nat),vD mask owner k->k+hs.length<=mask+1 ->
  ∃ o',(hs.foldl (fun acc h=>do
   let (owner,k) <- acc
   let j <- layClean.free mask owner (turns mask) (bits h % (mask+1)) (bits h)
   pure (owner.setIfInBounds j (some k),k+1)) (some (owner,k)))=some (o',k+hs.length)∧vD mask o' (k+hs.length)
 | [],owner,k,g,_=>⟨owner,rfl,g⟩
 | h::hs,owner,k,g,hk=>by
  rw[aw] at hk;obtain⟨j,e,g'⟩:=Kv hM g (by omega) h;obtain⟨o',e',g''⟩:=Ff hM hs _ _ g' (by omega);refine⟨o',?_,by rw[aw,show k+(hs.length+1)=k+1+hs.length by omega];exact g''⟩;rw[rj,aw,show k+(hs.length+1)=k+1+hs.length by omega,<- e']
  congr 1
  show (layClean.free mask owner (turns mask) (bits h % (mask+1)) (bits h)).bind _=_;rw[e];rfl
theorem Ix (mask:Nat):vD mask (rn (mask+1) none) 0:=by
 refine⟨Array.size_replicate,?_⟩
 have:vals (mask+1) (fun j=>(rn (mask+1) (none:Option Nat)).getD j none)=[]:=by
  unfold vals;refine List.filterMap_eq_nil_iff.mpr fun i _=>?_
  rw[fe,Array.getElem?_replicate];split <;> rfl
 rw[this];exact l9 _
theorem Am {mask finger moves:Nat}{led plain:Bool}{hashes:Array Int}(hM:rO (mask+1))(hn:hashes.size<=mask) :
  ∃ (t:SetTable) (order:Array Nat),laid mask finger moves led plain hashes=some (t,order)∧order.toList.Perm (cu hashes.size)∧t.place.size=hashes.size∧t.mask=mask∧t.dummies = #[]∧t.led=led∧t.plain=plain:=by
 obtain⟨o,e,g⟩:=Ff hM hashes.toList _ 0 (Ix mask) (by rw[bh];omega);have hc:layClean mask hashes=some o:=by
  unfold layClean;rw[<- Array.foldl_toList];refine (congrArg (si (·.1)) e).trans ?_;rfl
 have em:((cu (mask+1)).filterMap fun j=>(o.getD j none).map (j,·)).map (·.2)=vals (mask+1) fun j=>o.getD j none:=by
  rw[List.map_filterMap];unfold vals;refine rF _ fun i _=>?_
  cases o.getD i none <;> rfl
 have gp:(vals (mask+1) fun j=>o.getD j none).Perm (cu hashes.size):=by
  have:=g.2
  rw[jy,bh] at this;exact this
 refine⟨_,_,by unfold laid;rw[hc];rfl,by rw[em];exact gp,?_,rfl,rfl,rfl,rfl⟩;show (((cu (mask+1)).filterMap fun j=>(o.getD j none).map (j,·)).map (·.1)).toArray.size=_;have hl:=congrArg ge em;rw[aR] at hl;rw[ao,aR,hl,gp.length_eq,gi]
end ST
namespace SS
open PySem PyProof.Rows
def byT (w:World):Bool:=w.params.followText "set-order"
def lV:Value->Str
 | .str x _=>x
 | _=>Str.empty
def El (w:World)(e:Int×Value):Prop:=e.1=hashStr w (lV e.2)∧∃ t,e.2 = .str (lV e.2) t
def Els (w:World)(es:List (Int×Value))(ms:List Str):Prop:=(∀ e∈es,El w e)∧(es.map fun e=>lV e.2).Perm ms
theorem Els.perm {w:World}{es es':List (Int×Value)}{ms:List Str}(h:Els w es ms)(p:es'.Perm es):Els w es' ms:=⟨fun e he=>h.1 e (p.mem_iff.mp he),(p.map _).trans h.2⟩
theorem Els.of {w:World}{prog:Program}{es:List (Int×Value)}{ms:List Str}(h:Els w es ms):ElemsOf (eu prog w) es:=fun e he=>by
 obtain⟨h1,t,h2⟩:=h.1 e he;refine⟨⟨lV e.2,?_,h1⟩,?_⟩
 ·rw[h2]
  exact strKind_is prog w _ t
 ·rw[h2]
  rfl
theorem Els.len {w:World}{es:List (Int×Value)}{ms:List Str}(h:Els w es ms):es.length=ms.length:=by
 have:=h.2.length_eq
 rwa [aR] at this
theorem Els.has {w:World}{prog:Program}{es:List (Int×Value)}{ms:List Str}(h:Els w es ms)(k:Str):k∈ms↔∃ e∈es,(eu prog w).is k e.2=true:=by
 rw[<- h.2.mem_iff,ar];constructor
 ·rintro⟨e,he,rfl⟩
  obtain⟨_,t,h2⟩:=h.1 e he;refine⟨e,he,?_⟩
  conv=>lhs;arg 3;rw[h2]
  exact strKind_is prog w _ t
 ·rintro⟨e,he,hk⟩
  obtain⟨t,ht⟩:=Value.isStrOf_shape hk;exact⟨e,he,by rw[ht];rfl⟩
def Is (w:World)(h:Heap)(a:Addr)(ms:List Str):Prop :=
 ∃ o es ep t,h.get? a=some o∧o.ExactSet∧o.data = .set es ep t∧Els w es.toList ms∧ms.Nodup∧es.size<scanBound∧t.fits es.size=true∧(byT w=true∨t.led=true)∧(es.size=0∨t.plain=false)
theorem Is.at {w:World}{h h':Heap}{a:Addr}{ms:List Str}(x:Is w h a ms)(e:∀ o,h.get? a=some o->h'.get? a=some o):Is w h' a ms:=let ⟨o,es,ep,t,ho,r⟩:=x;⟨o,es,ep,t,e o ho,r⟩
theorem Is.there {w:World}{h:Heap}{a:Addr}{ms:List Str}(x:Is w h a ms):∃ o,h.get? a=some o:=let ⟨o,_,_,_,ho,_⟩:=x;⟨o,ho⟩
theorem zB (t:SetTable)(es:Array (Int×Value))(h:Int)(x:Value):(layNew t es h x).2.1.led=t.led:=by
 unfold layNew;split
 ·rename_i slot wd _
  show ((t.put slot).1.orStandIn _).led=t.led;unfold SetTable.orStandIn;split <;> rfl
 ·rfl
theorem Ab {mask finger moves:Nat}{led plain:Bool}{hs:Array Int}{t:SetTable}{o:Array Nat}(h:SetTable.laid mask finger moves led plain hs=some (t,o)):t.led=led∧t.plain=plain:=by
 unfold SetTable.laid at h
 cases hc:SetTable.layClean mask hs with
 | none=>rw[hc] at h;cases h
 | some ow =>
  rw[hc] at h;have h':=a5 h;rw[<- (Prod.mk.inj h').1];exact⟨rfl,rfl⟩
theorem qV (t:SetTable)(es:Array (Int×Value))(n:Nat)(hp:t.plain=false):(relayAll t es n).2.1.led=t.led∧(relayAll t es n).2.1.plain=false:=by
 unfold relayAll;split
 ·rename_i t' order e
  obtain⟨h1,h2⟩:=Ab e
  dsimp only
  split
  ·exact⟨h1,h2.trans hp⟩
  ·exact⟨rfl,rfl⟩
 ·exact⟨rfl,rfl⟩
section
variable {prog:Program}{w:World}{A:Around}{E:Value->Shared->Prop}{s:Shared}
theorem Is.store (prog:Program){a:Addr}{o:Obj}{es es':Array (Int×Value)}{ep:Nat}{t t':SetTable}{h:Heap}{ms:List Str}(ho:h.get? a=some o)(hex:o.ExactSet)(hd:o.data = .set es ep t)(hel:Els w es'.toList ms)(hnd:ms.Nodup)(hb:es'.size<scanBound)(hf:t'.fits es'.size=true)
  (hl:byT w=true∨t'.led=true) (hp:es'.size=0∨t'.plain=false):(h.update a (Obj.putSet es' t')).get? a=some { o with data:=.set es' (ep+1) t' }∧Is w (h.update a (Obj.putSet es' t')) a ms:=by
 have hg:=(SetOf_store (knd:=eu prog w) (S':=fun k=>decide (k∈ms)) ho hex hd hel.of (fun k=>by rw[decide_eq_true_iff];exact hel.has k) hb hf).1;exact⟨hg,_,es',ep+1,t',hg,hex,rfl,hel,hnd,hb,hf,hl,hp⟩
theorem Hh {a : Addr} {ms : List Str} {k : Str} {tk : Tok} {Q : Bool → Shared → Prop} (hS : Is w s.heap a ms) (hroom : ms.length + 1 < scanBound)
    (h : ∀ h' ms', Heap.SameBut a s.heap h' → Is w h' a ms' → (∀ x, x ∈ ms' ↔ x ∈ ms ∨ x = k) → ms'.length ≤ ms.length + 1 → Q (!decide (k ∈ ms)) { s with heap := h' }) :
    wpAny (model prog w) A (setAddHashed a (.str k tk) (hashStr w k)) Q E s := by
  obtain⟨o, es, ep, t, ho, hex, hd, hel, hnd, hb, hf, hl, hp⟩ := hS;have hn : es.size = ms.length := by rw[← hel.len, bh]
  have hkey : (eu prog w).is k (.str k tk) = true := strKind_is prog w k tk;unfold setAddHashed setAddHashedIn;refine wpAny_holding (wpAny_bind (wpAny_setState_of ho hd hf ?_))
  dsimp only
  rw[byScan_of (knd := eu prog w) (x := .str k tk) rfl hb hel.of];simp only [↓reduceIte];unfold setAddByScan;refine wpAny_bind (wpAny_bind (wpAny_rule (wpAny_bind (wpAny_setScan_of (knd := eu prog w) hkey ho hd hf hel.of ?_))))
  cases hr : List.findIdx? (fun e => (eu prog w).is k e.2) es.toList with
  | some j =>
    dsimp only
    obtain⟨hj, hpj, _⟩ := List.findIdx?_eq_some_iff_getElem.mp hr;have hm : k ∈ ms := (hel.has (prog := prog) k).mpr ⟨es.toList[j], b6 hj, hpj⟩;refine wpAny_pure (wpAny_pure ?_);have z := h s.heap ms (Heap.SameBut.refl a s.heap) ⟨o, es, ep, t, ho, hex, hd, hel, hnd, hb, hf, hl, hp⟩ (fun x => ⟨.inl, fun q => q.elim id fun e => e ▸ hm⟩) (by omega);rw[decide_eq_true hm] at z;exact z
  | none =>
    dsimp only
    have hm : ¬ k ∈ ms := fun z => by
      obtain⟨e, he, q⟩ := (hel.has (prog := prog) k).mp z;have := List.findIdx?_eq_none_iff.mp hr e he;rw[q] at this;cases this
    have gw : ∀ (b : Bool) {s₁ : Shared} {Q' : Unit → Shared → Prop}, Q' () s₁ → wpAny (model prog w) A (match b with | true => rule "set.scan.the-table-gave-way" | false => pure ()) Q' E s₁ := fun b s₁ Q' hq => by
      cases b
      · exact wpAny_pure hq
      · exact wpAny_rule hq
    have hperm := layNew_perm t es (hashStr w k) (.str k tk);have hfits := layNew_fits t es (hashStr w k) (.str k tk);have hled := zB t es (hashStr w k) (.str k tk);generalize hL : layNew t es (hashStr w k) (.str k tk) = L at hperm hfits hled ⊢;obtain⟨es1, t1, wasDummy, gave⟩ := L
    dsimp only at hperm hfits hled ⊢
    rw[qq] at hperm;have hel1 : Els w es1.toList (ms ++ [k]) := by
      refine Els.perm ⟨fun e he => ?_, ?_⟩ hperm
      · rcases a6.mp he with z | z
        · exact hel.1 e z
        · have e' : e = (hashStr w k, .str k tk) := by simpa using z
          rw[e'];exact⟨rfl, tk, rfl⟩
      · rw[ax]
        exact hel.2.append_right _
    have hnd1 : (ms ++ [k]).Nodup := di.mpr ⟨hnd, by simp, fun x hx y hy e => hm (by have : y = k := (by simpa using hy); rw[← this, ← e]; exact hx)⟩;have hsz1 : es1.size = ms.length + 1 := by rw[← bh, hel1.len, ag, da]
    have hb1 : es1.size < scanBound := by omega
    have fin : ∀ h', Heap.SameBut a s.heap h' → Is w h' a (ms ++ [k]) → Q true { s with heap := h' } := fun h' sb x => by
      have z := h h' (ms ++ [k]) sb x (fun y => by rw[a6, aq]) (by rw[ag, da]; omega);rw[decide_eq_false hm] at z;exact z
    have tail : ∀ t2 : SetTable, t2.fits es1.size = true → (byT w = true ∨ t2.led = true) → t2.plain = false → wpAny (model prog w) A (do
        storeSet a es1 t2
        if (!wasDummy && t2.tooFull) = true then do
            (match (relayAll t2 es1 (SetTable.grown es1.size)).2.2 with | true => rule "set.scan.the-table-gave-way" | false => pure ())
            storeSet a (relayAll t2 es1 (SetTable.grown es1.size)).1 (relayAll t2 es1 (SetTable.grown es1.size)).2.1
            pure (some true)
          else pure (some true)) (fun r s' => wpAny (model prog w) A (match r with | some added => pure added | none => setAddHashedIn a (.str k tk) (hashStr w k) 99999) Q E s') E s := fun t2 hf2 hl2 hp2 => by
      refine wpAny_bind (wpAny_storeSet_of ho hd ?_ (fits_of_scanBound hb1));obtain⟨ho1, hS1⟩ := Is.store prog ho hex hd hel1 hnd1 hb1 hf2 hl2 (.inr hp2);have sb1 := Heap.SameBut.update s.heap a (Obj.putSet es1 t2);split
      · have q1 := relayAll_perm t2 es1 (SetTable.grown es1.size)
        have q2 := relayAll_fits t2 es1 (SetTable.grown es1.size);have q3 := qV t2 es1 (SetTable.grown es1.size) hp2;generalize relayAll t2 es1 (SetTable.grown es1.size) = Rl at q1 q2 q3 ⊢;obtain⟨es2, t3, g2⟩ := Rl
        dsimp only at q1 q2 q3 ⊢
        have hel2 := hel1.perm q1;have hsz : es2.size = es1.size := by rw[← bh, q1.length_eq, bh]
        have hb2 : es2.size < scanBound := by omega
        refine wpAny_bind (gw _ (wpAny_bind (wpAny_storeSet_of ho1 rfl ?_ (fits_of_scanBound hb2))));obtain⟨_, hS2⟩ := Is.store prog ho1 hex rfl hel2 hnd1 hb2 q2 (hl2.imp id fun z => q3.1.trans z) (.inr q3.2);exact wpAny_pure (wpAny_pure (fin _ (sb1.trans (Heap.SameBut.update _ a _)) hS2))
      · exact wpAny_pure (wpAny_pure (fin _ sb1 hS1))
    refine wpAny_bind (gw _ ?_);have hl1 : byT w = true ∨ t1.led = true := hl.imp id fun z => hled.trans z
    split
    · refine wpAny_bind (wpAny_pure ?_)
      simp only [cm, ↓reduceIte];exact tail { t1 with plain := false } (SetTable.fits_plain_off hfits) hl1 rfl
    · rename_i hpl
      refine wpAny_bind (wpAny_pure ?_);simp only [↓reduceIte];exact tail t1 hfits hl1 (j5.mpr hpl)
end
theorem qZ:∀ n,n<=256->ST.rO (SetTable.sizeAbove n)∧n<SetTable.sizeAbove n:=by
 have key:∀ n,n<257->(SetTable.sizeAbove n=8∨SetTable.sizeAbove n=16∨SetTable.sizeAbove n=32∨SetTable.sizeAbove n=64∨SetTable.sizeAbove n=128∨SetTable.sizeAbove n=256∨SetTable.sizeAbove n=512)∧n<SetTable.sizeAbove n:=by decide +kernel
 exact fun n h=>key n (by omega)
theorem lY {es:Array (Int×Value)}{order:Array Nat}(h:order.toList.Perm (cu es.size)):(order.filterMap (es[·]?)).toList.Perm es.toList:=by
 rw[Array.toList_filterMap];exact (h.filterMap _).trans (by rw[filterMap_getElem?_range])
theorem lU {α:Type}:∀ (l:List α) (i:Nat) (h:i<l.length),(l[i]::l.eraseIdx i).Perm l
 | x::l,0,_=>l9 _
 | x::l,i+1,h=>by
  have h':i<l.length:=by simpa using h
  have ih:=lU l i h';exact (sd x (l[i]'h') (l.eraseIdx i)).trans (ih.cons x)
theorem tT {α:Type}(next:Nat->Nat)(xs:Array α):(pickOrder next xs).toList.Perm xs.toList:=by
 have key:∀ (fuel k:Nat) (left:List α) (out:Array α),left.length=fuel->(pickOrder.go next fuel k left out).toList.Perm (out.toList++left):=by
  intro fuel
  induction fuel with
  | zero =>
   intro k left out hl;obtain rfl:=cj.mp hl;rw[pickOrder.go,dy]
  | succ fuel ih =>
   intro k left out hl;have hlt:next k % left.length<left.length:=kl _ (by omega);rw[pickOrder.go,aa hlt]
   dsimp only
   refine (ih _ _ _ (by rw[ma hlt];omega)).trans ?_;rw[qq,g8];refine j8 _ ?_;exact lU left _ hlt
 have z:=key xs.size 0 xs.toList #[] (bh)
 simpa [pickOrder] using z
section
variable {prog:Program}{w:World}{A:Around}{E:Value->Shared->Prop}{s:Shared}
theorem fG {Q:Bool->Shared->Prop}(h:Q (byT w) s):wpAny (model prog w) A setsByText Q E s:=by
 unfold setsByText;exact wpAny_bind (wpAny_askSetting (wpAny_pure h))
theorem wF {a:Addr}{ms:List Str}{n:Nat}{Q:Unit->Shared->Prop}{o:Obj}{es:Array (Int×Value)}{ep:Nat}{t:SetTable}(ho:s.heap.get? a=some o)(hd:o.data = .set es ep t)(hf:t.fits es.size=true)(hn:n<=256)(hm:es.size<=n)
  (h:∀ (es':Array (Int×Value)) (t':SetTable),es'.toList.Perm es.toList->t'.place.size=es.size->t'.mask+1=SetTable.sizeAbove n->t'.dummies = #[]->t'.led=t.led->t'.plain=t.plain->Q () { s with heap:=s.heap.update a (Obj.putSet es' t') }) :
  wpAny (model prog w) A (setRelay a n) Q E s:=by
 obtain⟨hM,hlt⟩:=qZ n hn;have h8:=hM.pos;unfold setRelay;refine wpAny_bind (wpAny_setState_of ho hd hf ?_)
 dsimp only
 have hs:sizeLine=16777216:=sizeLine_eq;have hsl:¬ SetTable.sizeAbove n>sizeLine:=by
  rcases hM with e | e | e | e | e | e | e <;> omega
 rw[if_neg hsl];obtain⟨t',order,e1,e2,e3,e4,e5,e6,e7⟩:=ST.Am (mask:=SetTable.sizeAbove n-1) (finger:=t.finger) (moves:=t.movedTo (SetTable.sizeAbove n-1)) (led:=t.led) (plain:=t.plain) (hashes:=es.map (·.1)) (by rw[gv (by omega)];exact hM) (by rw[jc];omega);have e1':t.relaid (es.map (·.1)) n=some (t',order):=e1;rw[e1'];rw[jc] at e2 e3;have hp:=lY e2;have hsz:(order.filterMap (es[·]?)).size=es.size:=by rw[<- bh,hp.length_eq,bh]
 refine wpAny_bind (m:=(do
  if ((order.filterMap (es[·]?)).size != es.size)=true then unsupported "internal:set-table-lost-an-element"
  pure (order.filterMap (es[·]?),t'))) ?_
 rw[hsz,bne_self_eq_false,if_neg ak];refine wpAny_pure ?_;exact wpAny_storeSet_of ho hd (h _ _ hp e3 (by rw[e4];omega) e5 e6 e7) (by rw[hsz];omega)
theorem Fx {a b:Addr}{ms ms':List Str}{Q:Bool->Shared->Prop}(h1:Is w s.heap a ms)(h2:Is w s.heap b ms')(h:Q true s):wpAny (model prog w) A (setsQuiet [a,b]) Q E s:=by
 unfold setsQuiet;refine wpAny_bind ?_;refine wpAny_forIn_list _ (fun rest r s'=>r=(none,())∧s'=s∧∀ c∈rest,∃ ks,Is w s.heap c ks) _ ?_ ?_ _ _ ⟨rfl,rfl,fun c hc=>?_⟩
 ·rintro c rest r s' ⟨rfl,rfl,hall⟩
  obtain⟨ks,hc⟩:=hall c (am ..);obtain⟨o,es,ep,t,ho,hex,hd,hel,hnd,hb,hf,_⟩:=hc;refine wpAny_bind (wpAny_setEntries_of ho hd hf (wpAny_bind ?_));rw[<- p9];refine wpAny_forIn_list _ (fun rest r s2=>r=(none,())∧s2=s'∧∀ e∈rest,El w e) _ ?_ ?_ _ _ ⟨rfl,rfl,hel.1⟩
  ·rintro⟨hh,x⟩ rest2 r s2 ⟨rfl,rfl,hall2⟩
   obtain⟨_,tk,e⟩:=hall2 _ (am ..)
   dsimp only at e ⊢
   rw[e];exact wpAny_pure ⟨rfl,rfl,fun u hu=>hall2 u (ai _ hu)⟩
  ·rintro r s2 ⟨rfl,rfl,_⟩
   exact wpAny_pure ⟨rfl,rfl,fun u hu=>hall u (ai _ hu)⟩
 ·rintro r s' ⟨rfl,rfl,_⟩
  exact wpAny_pure h
 ·rcases au.mp hc with rfl | hc
  ·exact⟨ms,h1⟩
  ·rcases au.mp hc with rfl | hc
   ·exact⟨ms',h2⟩
   ·cases hc
theorem Qj {a b:Addr}{ms1 ms2:List Str}{Q:Array (Int×Value)->Shared->Prop}(h1:Is w s.heap a ms1)(hne:ms1≠[])(h2:Is w s.heap b ms2)(h:∀ es:Array (Int×Value),Els w es.toList ms2->Q es s) :
  wpAny (model prog w) A (setWalkUnseen b [a] (some a)) Q E s:=by
 obtain⟨o,es,ep,t,ho,hex,hd,hel,hnd,hb,hf,hl,hp⟩:=id h2;unfold setWalkUnseen;refine wpAny_bind (wpAny_setState_of ho hd hf ?_)
 dsimp only
 refine wpAny_bind (fG ?_);have walk:∀ Q':Array (Int×Value)->Shared->Prop,(byT w=true∨es.size<=1)->(∀ es':Array (Int×Value),Els w es'.toList ms2->Q' es' s)->wpAny (model prog w) A (setWalk b) Q' E s:=fun Q' hc hQ=>by
  unfold setWalk;refine wpAny_bind (wpAny_setState_of ho hd hf ?_)
  dsimp only
  refine wpAny_bind (fG ?_);by_cases hby:byT w=true
  ·rw[if_pos hby]
   refine wpAny_bind (wpAny_askSetting (wpAny_pure (hQ _ (hel.perm (tT _ _)))))
  ·rw[if_neg hby]
   have h1:es.size<=1:=hc.resolve_left hby;have hdr:(!t.plain&&decide (es.size>1))=false:=by
    rw[decide_eq_false (by omega),ij]
   have hml:(!t.led&&decide (es.size>1))=false:=by
    rw[decide_eq_false (by omega),ij]
   show wpAny _ _ (if (!t.plain&&decide (es.size>1))=true then _ else _) _ _ s;rw[hdr,if_neg ak];refine wpAny_bind (m:=if (!t.led&&decide (es.size>1))=true then unsupported "set:maker-not-led" else pure ()) ?_
   rw[hml,if_neg ak];exact wpAny_pure (wpAny_pure (hQ _ hel))
 by_cases hc:byT w=true∨es.size<=1
 ·have e:(byT w||(t.led&&t.plain)||decide (es.size<=1))=true:=by
   rcases hc with z | z
   ·rw[z];simp
   ·rw[decide_eq_true z];simp
  rw[e,if_pos rfl];exact walk _ hc h
 ·have hby:byT w=false:=j5.mpr fun z=>hc (.inl z)
  have hs1:¬ es.size<=1:=fun z=>hc (.inr z)
  have hpl:t.plain=false:=hp.resolve_left (by omega);have hld:t.led=true:=hl.resolve_left (by rw[hby];exact ak);have e:(byT w||(t.led&&t.plain)||decide (es.size<=1))=false:=by
   rw[hby,hpl,decide_eq_false hs1];simp
  rw[e,if_neg ak];refine wpAny_bind (Fx h2 h1 ?_);simp only [ky,cm,↓reduceIte];refine wpAny_bind (wpAny_rule ?_);obtain⟨o1,es1,ep1,t1,ho1,hex1,hd1,hel1,hnd1,hb1,hf1,hl1,hp1⟩:=id h1;refine wpAny_bind (wpAny_setState_of ho1 hd1 hf1 ?_)
  dsimp only
  have hs0:es1.size≠0:=fun z=>hne (cj.mp (by rw[<- hel1.len,bh];exact z))
  have hpl1:t1.plain=false:=hp1.resolve_left hs0;have hc2:(t1.led && !t.led||t1.plain && !t.plain)=false:=by
   rw[hld,hpl1];simp
  rw[hc2,if_neg ak];exact wpAny_pure (h es hel)
theorem Kl {a:Addr}{ms:List Str}{m:Nat}{Q:Unit->Shared->Prop}(hS:Is w s.heap a ms)(hm:ms.length+m<=128)(h:∀ h',Heap.SameBut a s.heap h'->Is w h' a ms->Q () { s with heap:=h' }):wpAny (model prog w) A (setRoomFor a m) Q E s:=by
 obtain⟨o,es,ep,t,ho,hex,hd,hel,hnd,hb,hf,hl,hp⟩:=id hS;have hn:es.size=ms.length:=by rw[<- hel.len,bh]
 have hpsz:t.place.size=es.size:=by
  simp only [SetTable.fits,dg,beq_iff_eq] at hf;exact hf.1
 unfold setRoomFor;refine wpAny_bind (wpAny_setState_of ho hd hf ?_)
 dsimp only
 unfold SetTable.roomFor;by_cases hc:(t.fill+m)*5≥t.mask*3
 ·rw[if_pos hc]
  refine wF (ms:=ms) ho hd hf (by omega) (by omega) fun es' t' p1 p2 p3 p4 p5 p6=>?_
  have hsz:es'.size=es.size:=by rw[<- bh,p1.length_eq,bh]
  have h8:=(qZ ((t.place.size+m)*2) (by omega)).2;have hf':t'.fits es'.size=true:=by
   simp only [SetTable.fits,dg,beq_iff_eq,decide_eq_true_eq,SetTable.fill,p4];exact⟨by omega,by show t'.place.size+0<=t'.mask;omega⟩
  exact h _ (Heap.SameBut.update _ a _) (Is.store prog ho hex hd (hel.perm p1) hnd (by omega) hf' (hl.imp id fun z=>p5.trans z) (hp.imp (fun z=>by omega) fun z=>p6.trans z)).2
 ·rw[if_neg hc]
  exact wpAny_pure (h s.heap (Heap.SameBut.refl a _) hS)
theorem Iq {a b:Addr}{ms1 ms2:List Str}{each:Sem Unit}{Q:Unit->Shared->Prop}(hab:a≠b)(h1:Is w s.heap a ms1)(h2:Is w s.heap b ms2)(hne:ms1≠[])(hsz:ms1.length+ms2.length<=128)
  (heach:∀ (s':Shared) (Q':Unit->Shared->Prop),(∀ o,s.heap.get? b=some o->s'.heap.get? b=some o)->Q' () s'->wpAny (model prog w) A each Q' E s')
  (h:∀ h' ms',Heap.SameBut a s.heap h'->Is w h' a ms'->(∀ x,x∈ms'↔x∈ms1∨x∈ms2)->ms'.length<=ms1.length+ms2.length->Q () { s with heap:=h' }):wpAny (model prog w) A (setMerge a b each) Q E s:=by
 obtain⟨o,es,ep,t,ho,hex,hd,hel,hnd,hb,hf,hl,hp⟩:=id h2;have hn:es.size=ms2.length:=by rw[<- hel.len,bh]
 unfold setMerge;rw[if_neg (show ¬ ((a==b)=true) by rw[beq_iff_eq];exact hab)];refine wpAny_bind (wpAny_setState_of ho hd hf ?_)
 dsimp only
 by_cases h0:es.isEmpty=true
 ·rw[if_pos h0]
  have e0:ms2=[]:=cj.mp (by rw[<- hn];simpa using h0);exact wpAny_pure (h s.heap ms1 (Heap.SameBut.refl a _) h1 (fun x=>by rw[e0];simp) (by omega))
 rw[if_neg h0];refine wpAny_bind (Kl h1 (by omega) fun h3 sb3 i3=>?_);have hb3:h3.get? b=some o:=(sb3.2 b (Ne.symm hab)).trans ho;have h2':Is w h3 b ms2:=⟨o,es,ep,t,hb3,hex,hd,hel,hnd,hb,hf,hl,hp⟩;obtain⟨o3,es3,ep3,t3,ho3,hex3,hd3,hel3,hnd3,hb3',hf3,hl3,hp3⟩:=id i3;refine wpAny_bind (wpAny_setState_of (s:={ s with heap:=h3 }) ho3 hd3 hf3 ?_)
 dsimp only
 have hroad:t3.road t = .oneByOne:=by
  unfold SetTable.road;have hp:t3.place.size=es3.size:=by
   simp only [SetTable.fits,dg,beq_iff_eq] at hf3;exact hf3.1
  have hpos:0<es3.size:=by
   rw[<- bh,hel3.len];exact gn.mpr hne
  rw[if_pos];rw[bne_iff_ne];unfold SetTable.fill;omega
 rw[hroad]
 dsimp only
 refine wpAny_bind (Qj (s:={ s with heap:=h3 }) i3 hne h2' fun es4 hel4=>wpAny_bind ?_);rw[<- p9];refine wpAny_forIn_list _ (fun rest _ s'=>∃ dn ms',es4.toList=dn++rest∧s' = { s with heap:=s'.heap }∧Heap.SameBut a s.heap s'.heap∧Is w s'.heap a ms'∧(∀ x,x∈ms'↔x∈ms1∨∃ e∈dn,x=lV e.2)∧ms'.length<=ms1.length+dn.length) _ ?_ ?_ _ _ ⟨[],ms1,rfl,rfl,sb3,i3,fun x=>by simp,by simp⟩
 ·rintro⟨hh,x⟩ rest u s' ⟨dn,ms',e1,e2,sb,i4,hm,hle⟩
  obtain⟨q1,tk,q2⟩:=hel4.1 (hh,x) (by rw[e1];simp)
  dsimp only at q1 q2 ⊢
  have hlen:dn.length+(rest.length+1)=ms2.length:=by
   have:=congrArg ge e1
   rw[hel4.len,ag,aw] at this;omega
  rw[q2,q1];have sb128:scanBound=4096:=rfl;refine wpAny_bind (wpAny_holding (Hh (s:=s') i4 (by omega) fun h5 ms5 sb5 i5 hm5 hl5=>?_));have hb5:h5.get? b=some o:=(sb5.2 b (Ne.symm hab)).trans ((sb.2 b (Ne.symm hab)).trans ho);refine wpAny_bind (heach _ _ (fun o' z=>?_) ?_)
  ·rw[ho] at z
   cases z;exact hb5
  ·refine wpAny_bind (wpAny_setState_of (s:={ s' with heap:=h5 }) hb5 hd hf ?_)
   dsimp only
   rw[bne_self_eq_false,if_neg ak];refine wpAny_pure ⟨dn++[(hh,x)],ms5,by rw[e1,g8];rfl,by rw[e2],sb.trans sb5,i5,fun y=>?_,by rw[ag,da];omega⟩;rw[hm5,hm];constructor
   ·rintro ((z | ⟨e,he,rfl⟩) | rfl)
    ·exact .inl z
    ·exact .inr ⟨e,cn _ he,rfl⟩
    ·exact .inr ⟨(hh,x),by simp,rfl⟩
   ·rintro (z | ⟨e,he,rfl⟩)
    ·exact .inl (.inl z)
    ·rcases a6.mp he with z | z
     ·exact .inl (.inr ⟨e,z,rfl⟩)
     ·have:e=(hh,x):=by simpa using z
      subst this;exact .inr rfl
 ·rintro u s' ⟨dn,ms',e1,e2,sb,i4,hm,hle⟩
  rw[dy] at e1;rw[e2];refine wpAny_pure (h _ ms' sb i4 (fun x=>?_) ?_)
  ·rw[hm,<- e1,<- hel4.2.mem_iff,ar]
   exact or_congr Iff.rfl ⟨fun ⟨e,he,z⟩=>⟨e,he,z.symm⟩,fun ⟨e,he,z⟩=>⟨e,he,z.symm⟩⟩
  ·have:=congrArg ge e1
   rw[hel4.len] at this;omega
def dE (w:World):Obj:={ cls:=.type "set",dict:=none,data:=.set #[] 0 (.fresh 0 0 (!byT w)) }
theorem Oi {Q:Value->Shared->Prop}(h:Q (.ref s.heap.objs.size) { s with heap:=s.heap.push (dE w) }):wpAny (model prog w) A (newSet (.type "set")) Q E s:=by
 unfold newSet;refine wpAny_bind (fG ?_)
 dsimp only
 simp only [newObj];exact wpAny_bind (wpAny_alloc (wpAny_pure h))
theorem Is.fresh (h:Heap):Is w (h.push (dE w)) h.objs.size []:=by
 refine⟨dE w,#[],0,.fresh 0 0 (!byT w),Heap.get?_push_size _ rfl,⟨rfl,rfl,rfl⟩,rfl,⟨fun e he=>by simp at he,by simp⟩,gx,by decide,rfl,?_,.inl rfl⟩;cases byT w
 ·exact .inr rfl
 ·exact .inl rfl
theorem Hq {a:Addr}{n:Nat}{Q:Unit->Shared->Prop}(ho1:s.heap.get? a=some (dE w))(hn:n<=128)
  (h:∀ (h3:Heap) (o3:Obj) (ep3:Nat) (t3:SetTable),Heap.SameBut a s.heap h3->h3.get? a=some o3->o3.ExactSet->o3.data = .set #[] ep3 t3->t3.place.size=0->t3.dummies = #[]->ST.rO (t3.mask+1)->n<=t3.mask->(byT w=true∨t3.led=true)->Q () { s with heap:=h3 }) :
  wpAny (model prog w) A (setRoomFor a n) Q E s:=by
 have hled:byT w=true∨(!byT w)=true:=by cases byT w <;> simp
 unfold setRoomFor;refine wpAny_bind (wpAny_setState_of ho1 rfl rfl ?_)
 dsimp only
 unfold SetTable.roomFor;by_cases hc:((SetTable.fresh 0 0 (!byT w)).fill+n)*5≥(SetTable.fresh 0 0 (!byT w)).mask*3
 ·rw[if_pos hc]
  refine wF (ms:=[]) ho1 rfl rfl (by show (0+n)*2<=256;omega) (bi _) fun es' t' p1 p2 p3 p4 p5 p6=>?_
  obtain rfl:es' = #[]:=by
   have:=p1.length_eq
   rw[bh] at this;exact kq this
  obtain⟨hM,hlt⟩:=qZ ((0+n)*2) (by omega);have p3':t'.mask+1=SetTable.sizeAbove ((0+n)*2):=p3;have hg:(s.heap.update a (Obj.putSet #[] t')).get? a=some { dE w with data:=.set #[] (0+1) t' }:=by
   have:=Heap.get?_update_self (Obj.putSet #[] t') ho1 (by rw[putSet_of (o:=dE w) #[] t' rfl];rfl)
   rw[putSet_of (o:=dE w) #[] t' rfl] at this;exact this
  exact h _ _ 1 t' (Heap.SameBut.update _ a _) hg ⟨rfl,rfl,rfl⟩ rfl p2 p4 (by rw[p3'];exact hM) (by omega) (hled.imp id fun z=>p5.trans z)
 ·rw[if_neg hc]
  have hc':¬ (0+n)*5≥7*3:=hc;exact wpAny_pure (h s.heap (dE w) 0 _ (Heap.SameBut.refl a _) ho1 ⟨rfl,rfl,rfl⟩ rfl rfl rfl (.inl rfl) (by show n<=7;omega) hled)
theorem Ez {a b:Addr}{ms:List Str}{Q:Unit->Shared->Prop}(hab:a≠b)(ho1:s.heap.get? a=some (dE w))(h2:Is w s.heap b ms)(hsz:ms.length<=128)
  (h:∀ h',Heap.SameBut a s.heap h'->Is w h' a ms->Q () { s with heap:=h' }):wpAny (model prog w) A (setMerge a b) Q E s:=by
 obtain⟨o,es,ep,t,ho,hex,hd,hel,hnd,hb,hf,hl,hp⟩:=id h2;have hn:es.size=ms.length:=by rw[<- hel.len,bh]
 have hled:byT w=true∨(!byT w)=true:=by cases byT w <;> simp
 unfold setMerge;rw[if_neg (show ¬ ((a==b)=true) by rw[beq_iff_eq];exact hab)];refine wpAny_bind (wpAny_setState_of ho hd hf ?_)
 dsimp only
 by_cases h0:es.isEmpty=true
 ·rw[if_pos h0]
  have e0:ms=[]:=cj.mp (by rw[<- hn];simpa using h0);subst e0;exact wpAny_pure (h s.heap (Heap.SameBut.refl a _) ⟨dE w,#[],0,.fresh 0 0 (!byT w),ho1,⟨rfl,rfl,rfl⟩,rfl,⟨fun e he=>by simp at he,by simp⟩,gx,by decide,rfl,hled,.inl rfl⟩)
 rw[if_neg h0];have hpos:0<es.size:=by
  rcases qa es.size with z | z
  ·exact absurd (by simpa using z) h0
  ·exact z
 have hpl:t.plain=false:=hp.resolve_left (by omega);refine wpAny_bind (Hq ho1 (by omega) fun h3 o3 ep3 t3 sb3 ho3 hex3 hd3 hps hdu hM hle hld3=>?_);have hf3:t3.fits (#[]:Array (Int×Value)).size=true:=by
  simp only [SetTable.fits,dg,beq_iff_eq,decide_eq_true_eq,SetTable.fill,hdu];exact⟨hps,by show t3.place.size+0<=t3.mask;omega⟩
 refine wpAny_bind (wpAny_setState_of (s:={ s with heap:=h3 }) ho3 hd3 hf3 ?_)
 dsimp only
 have hled3:byT w=true∨(t3.led&&t.led)=true:=by
  rcases hld3 with z | z
  ·exact .inl z
  ·rcases hl with y | y
   ·exact .inl y
   ·exact .inr (by rw[z,y];rfl)
 have hfill:(t3.fill != 0)=false:=by
  unfold SetTable.fill;rw[hps,hdu];rfl
 unfold SetTable.road;rw[hfill,if_neg ak];by_cases hm:(t3.mask==t.mask&&t.dummies.isEmpty)=true
 ·rw[if_pos hm]
  dsimp only
  refine wpAny_storeSet_of (s:={ s with heap:=h3 }) ho3 hd3 ?_ (fits_of_scanBound hb);exact h _ (sb3.trans (Heap.SameBut.update _ a _)) (Is.store prog (t':={ mask:=t.mask,place:=t.place,dummies:=t.dummies,finger:=t3.finger,led:=t3.led&&t.led,moves:=t3.moves,plain:=t3.plain&&t.plain }) ho3 hex3 hd3 hel hnd hb hf hled3 (.inr (by show (t3.plain&&t.plain)=false;rw[hpl,ij]))).2
 ·rw[if_neg hm]
  dsimp only
  obtain⟨t',order,e1,e2,e3,e4,e5,e6,e7⟩:=ST.Am (finger:=t3.finger) (moves:=t3.moves) (led:=t3.led&&t.led) (plain:=t3.plain&&t.plain) (hashes:=es.map (·.1)) hM (by rw[jc];exact hle);rw[e1];rw[jc] at e2 e3;have hpm:=lY e2;have hsz':(order.filterMap (es[·]?)).size=es.size:=by rw[<- bh,hpm.length_eq,bh]
  refine wpAny_bind (m:=(do
   if ((order.filterMap (es[·]?)).size != es.size)=true then unsupported "internal:set-table-lost-an-element"
   pure (order.filterMap (es[·]?),t'))) ?_
  rw[hsz',bne_self_eq_false,if_neg ak];refine wpAny_pure ?_;refine wpAny_storeSet_of (s:={ s with heap:=h3 }) ho3 hd3 ?_ (by rw[hsz'];exact fits_of_scanBound hb);have hf':t'.fits (order.filterMap (es[·]?)).size=true:=by
   simp only [SetTable.fits,dg,beq_iff_eq,decide_eq_true_eq,SetTable.fill,e5];exact⟨by omega,by show t'.place.size+0<=t'.mask;omega⟩
  exact h _ (sb3.trans (Heap.SameBut.update _ a _)) (Is.store prog ho3 hex3 hd3 (hel.perm hpm) hnd (by rw[hsz'];exact hb) hf' (by rw[e6];exact hled3) (.inr (by rw[e7,hpl,ij]))).2
theorem Is.ty {a:Addr}{ms:List Str}(x:Is w s.heap a ms):s.TypeIs (.ref a) "set" := by
 obtain⟨o,_,_,_,ho,hex,_⟩:=x;exact⟨o,ho,hex.1⟩
theorem La {b:Addr}{ms:List Str}{Q:Value->Shared->Prop}(h2:Is w s.heap b ms)(hsz:ms.length<=128)
  (h:∀ h',(∀ x o,s.heap.get? x=some o->h'.get? x=some o)->Is w h' s.heap.objs.size ms->Q (.ref s.heap.objs.size) { s with heap:=h' }):wpAny (model prog w) A (Builtin.Frozenset.copyOf b) Q E s:=by
 unfold Builtin.Frozenset.copyOf Builtin.Frozenset.baseOf;refine wpAny_bind (wpAny_bind (wpAny_isInstance h2.ty sub_set_self (wpAny_pure ?_)));rw[if_pos rfl];refine wpAny_bind (Oi ?_);refine wpAny_bind (m:=Builtin.Frozenset.addrOf (.ref s.heap.objs.size)) (wpAny_pure ?_);obtain⟨o,ho⟩:=h2.there;have hlt:=Heap.lt_size ho;refine wpAny_bind (Ez (s:={ s with heap:=s.heap.push (dE w) }) (fu hlt) (Heap.get?_push_size _ rfl) (h2.at fun o e=>Heap.get?_push_of_some _ e) hsz fun h' sb i=>wpAny_pure ?_);exact h h' (fun x o e=>(sb.2 x (ay (Heap.lt_size e))).trans (Heap.get?_push_of_some _ e)) i
theorem Ib:entryFor table "set.__or__" = some Builtin.«frozenset.__or__» :=
 entryFor_alias (id' := "frozenset.__or__") (by kernel_rfl) (by first | rfl | decide +kernel | (unfold String.splitOn;simp +decide [String.splitOnAux])) (by decide +kernel) (by kernel_rfl)
theorem Rr {a b:Addr}{ms1 ms2:List Str}{Q:Value->Shared->Prop}(hab:a≠b)(h1:Is w s.heap a ms1)(h2:Is w s.heap b ms2)(hne:ms1≠[])(hsz:ms1.length+ms2.length<=128)
  (h:∀ h' ms',(∀ x o,s.heap.get? x=some o->h'.get? x=some o)->Is w h' s.heap.objs.size ms'->(∀ x,x∈ms'↔x∈ms1∨x∈ms2)->ms'.length<=ms1.length+ms2.length->Q (.ref s.heap.objs.size) { s with heap:=h' }) :
  wpAny (model prog w) A (binaryOp .BitOr (.ref a) (.ref b)) Q E s:=by
 refine wpAny_binaryOp_same h1.ty h2.ty F.fills_set_or F.slot_set_or (wpAny_call_entry F.slot_set_or h1.ty Ib ?_ (F.args_set_or_2 _ _));refine wpAny_bind (m:=Builtin.Frozenset.slot1 "__or__" ⟨[.ref a,.ref b],[]⟩) (wpAny_pure (a:=(Value.ref a,Value.ref b)) ?_)
 dsimp only
 simp only [cm,↓reduceIte];have any:∀ (c:Addr) (ms:List Str) (A':Around) (s':Shared) (Q':Bool->Shared->Prop),Is w s'.heap c ms->Q' true s'->wpAny (model prog w) A' (Builtin.Frozenset.isAnySet (.ref c)) Q' E s':=fun c ms A' s' Q' hc hQ=>by
  unfold Builtin.Frozenset.isAnySet;refine wpAny_bind (m:=isInstance (.ref c) (.type "set")) (wpAny_isInstance hc.ty sub_set_self ?_)
  exact wpAny_pure hQ
 refine wpAny_bind (m:=Builtin.Frozenset.isAnySet (.ref a) <&&> Builtin.Frozenset.isAnySet (.ref b)) ?_;refine wpAny_bind (m:=Builtin.Frozenset.isAnySet (.ref a)) (any a ms1 _ s _ h1 ?_);refine any b ms2 _ s _ h2 ?_;simp only [ky,cm,↓reduceIte];refine wpAny_bind (m:=Builtin.Frozenset.addrOf (.ref a)) (wpAny_pure ?_);refine wpAny_bind ?_;refine wpAny_bind (m:=Builtin.Frozenset.copyOf a) (La h1 (by omega) fun h3 kp3 i3=>?_);have hb:(Value.ref b != Value.ref a)=true:=by
  rw[bne_iff_ne];exact fun z=>hab (by cases z;rfl)
 have hlt:=Heap.lt_size h2.there.choose_spec;have h2':Is w h3 b ms2:=h2.at fun o e=>kp3 b o e
 have nb:s.heap.objs.size≠b:=fu hlt;rw[hb,if_pos rfl];refine wpAny_bind (m:=holding [.ref s.heap.objs.size] (do Builtin.Frozenset.updateFrom _ (<- Builtin.Frozenset.addrOf (.ref s.heap.objs.size)) (.ref b))) (wpAny_holding ?_);refine wpAny_bind (m:=Builtin.Frozenset.addrOf (.ref s.heap.objs.size)) (wpAny_pure ?_);unfold Builtin.Frozenset.updateFrom;refine wpAny_bind (m:=Builtin.Frozenset.isAnySet (.ref b)) (any b ms2 _ { s with heap:=h3 } _ h2' ?_);rw[if_pos rfl];refine wpAny_bind (m:=Builtin.Frozenset.addrOf (.ref b)) (wpAny_pure ?_);unfold Builtin.Frozenset.merge;obtain⟨o,es,ep,t,ho,hex,hd,hel,hnd,hbs,hf,hl,hp⟩:=id h2';refine wpAny_bind (wpAny_setEpoch_of (s:={ s with heap:=h3 }) ho hd hf ?_);refine Iq (s:={ s with heap:=h3 }) nb i3 h2' hne hsz (fun s' Q' keep hQ=>?_) fun h4 ms' sb4 i4 hm hle=>?_
 ·unfold Builtin.Frozenset.unchanged
  refine wpAny_bind (wpAny_setEpoch_of (s:=s') (keep o ho) hd hf ?_);rw[bne_self_eq_false,if_neg ak];exact wpAny_pure hQ
 ·refine wpAny_pure (wpAny_pure ⟨_,rfl,(by intro z;cases z),h h4 ms' (fun x o' e=>(sb4.2 x (ay (Heap.lt_size e))).trans (kp3 x o' e)) i4 hm hle⟩)
end
theorem dG:Slot "set_iterator" "__next__" "set_iterator.__next__" :=
 .of (owner := "set_iterator") (n := "__next__") (by rw[typeLookup_type,builtinLookup_eq_fast];kernel_rfl) (by decide +kernel) (by decide +kernel) (by decide +kernel) (by first | exact .inl (by decide +kernel) | exact .inr (by decide +kernel)) (by rw[isSubtype_type];kernel_rfl)
theorem iP:entryFor table "set_iterator.__next__" = some Builtin.«set_iterator.__next__» := entryFor_of_tree (by kernel_rfl)
theorem kS (a:Value):argsOk "set_iterator.__next__" ⟨[a],[]⟩:=by unfold argsOk;kernel_rfl
theorem sM:Slot "set_iterator" "__iter__" "set_iterator.__iter__" :=
 .of (owner := "set_iterator") (n := "__iter__") (by rw[typeLookup_type,builtinLookup_eq_fast];kernel_rfl) (by decide +kernel) (by decide +kernel) (by decide +kernel) (by first | exact .inl (by decide +kernel) | exact .inr (by decide +kernel)) (by rw[isSubtype_type];kernel_rfl)
theorem Cy (a:Value):argsOk "set_iterator.__iter__" ⟨[a],[]⟩:=by unfold argsOk;kernel_rfl
theorem Ac:entryFor table "set_iterator.__iter__" = some Builtin.«dict_keyiterator.__iter__» :=
 entryFor_alias (id' := "dict_keyiterator.__iter__") (by kernel_rfl) (by first | rfl | decide +kernel | (unfold String.splitOn;simp +decide [String.splitOnAux])) (by decide +kernel) (by kernel_rfl)
theorem yN:entryFor table "set.__iter__" = some Builtin.«frozenset.__iter__» :=
 entryFor_alias (id' := "frozenset.__iter__") (by kernel_rfl) (by first | rfl | decide +kernel | (unfold String.splitOn;simp +decide [String.splitOnAux])) (by decide +kernel) (by kernel_rfl)
def It (h:Heap)(I a:Addr)(first:Value)(i n ep:Nat):Prop:=∃ o,h.get? I=some o∧o.cls = .type "set_iterator" ∧ o.data = .fields #[first,rawInt (i:Int),.ref a,rawInt (n:Int),rawInt (ep:Int)]
theorem It.at {h h':Heap}{I a:Addr}{first:Value}{i n ep:Nat}(x:It h I a first i n ep)(e:∀ o,h.get? I=some o->h'.get? I=some o):It h' I a first i n ep:=let ⟨o,ho,r⟩:=x;⟨o,e _ ho,r⟩
section
variable {prog:Program}{w:World}{A:Around}{E:Value->Shared->Prop}{s:Shared}
theorem It.ty {I a:Addr}{first:Value}{i n ep:Nat}(x:It s.heap I a first i n ep):s.TypeIs (.ref I) "set_iterator" := let ⟨o,ho,hc,_⟩:=x;⟨o,ho,hc⟩
theorem Ai {α:Type}{I:Addr}{s0 s:Shared}{Q:Option Value->Shared->Prop}(hh:A.handled=none)(hQ:∀ h',(∀ b o,s.heap.get? b=some o->h'.get? b=some o)->Q none { s with heap:=h' }) :
  wpAny (model prog w) A.in1 (newExc (.type "StopIteration") [] >>= fun e=>(raiseNew e:Sem Fin)) (fun fin s'=>∃ v,fin = .done (.ret v)∧wpAny (model prog w) A (pure (some v)) Q E s')
   (fun e s'=>wpAny (model prog w) A (do if <- isInstance e (.type "StopIteration") then pure none else throw e) Q E s') s:=by
 refine wpAny_bind ?_;simp only [newExc,newTuple];refine wpAny_bind (wpAny_newObj_type ?_ (by size_fits));refine wpAny_bind (m:=firstArgMember _ _) (wpAny_of_eq (a:=Value.none) (by first | rfl | (simp only [firstArgMember];rfl)) ?_);refine wpAny_newObj_type ?_ (by size_fits);simp only [raiseNew];refine wpAny_bind (wpAny_handled ?_)
 first | rw[show A.in1.handled=none from hh] | rw[hh]
 refine wpAny_bind (wpAny_pure (wpAny_throw ?_));refine wpAny_bind (wpAny_isInstance (T := "StopIteration") (b:=true) ⟨_,Heap.get?_push_size _ rfl,rfl⟩ isSubtype_stop ?_)
 refine wpAny_pure (hQ _ fun b ob eb=>?_);exact Heap.get?_push_of_some _ (Heap.get?_push_of_some _ eb)
theorem Jg {I a:Addr}{o:Obj}{es:Array (Int×Value)}{ep i slot nx:Nat}{t:SetTable}{x:Value}{Q:Option Value->Shared->Prop}(hI:It s.heap I a (rawInt (slot:Int)) i es.size ep)(hne:a≠I)(ho:s.heap.get? a=some o)(hd:o.data = .set es ep t)(hf:t.fits es.size=true)
  (hN:∀ (A':Around) (E':Value->Shared->Prop) (Q':Option (Value×Nat)->Shared->Prop),Q' (some (x,nx)) s->wpAny (model prog w) A' (setNext a slot i ep) Q' E' s)
  (hQ:∀ h',It h' I a (rawInt (nx:Int)) (i+1) es.size ep->Heap.SameBut I s.heap h'->Q (some x) { s with heap:=h' }):wpAny (model prog w) A (pyNext (.ref I)) Q E s:=by
 obtain⟨oi,hoi,hci,hdi⟩:=id hI;unfold pyNext;refine wpAny_bind (wpAny_attempt (wpAny_callSpecial?_slot (name:=Str.ofString "__next__") hI.ty dG (wpAny_call_entry dG hI.ty iP ?_ (kS _))))
 unfold Builtin.«set_iterator.__next__»;refine wpAny_bind (wpAny_of_eq (a:=(Value.ref I,[])) rfl ?_)
 try dsimp only
 refine wpAny_bind (wpAny_fieldsOf hoi hdi ?_)
 dsimp only [rawInt]
 refine wpAny_bind (wpAny_setEntries_of ho hd hf ?_);rw[if_neg (by simp)];refine wpAny_bind (m:=setNext a (slot:Int).toNat (i:Int).toNat (ep:Int).toNat) ?_;rw[bt,bt,bt];refine hN _ _ _ ?_
 dsimp only
 refine wpAny_bind (wpAny_setField hoi hdi (by simp) ?_);have h2:=Heap.get?_update_self (Obj.mapFields (·.setIfInBounds 0 (rawInt (nx:Int)))) hoi (Obj.isFreed_of_fields (Obj.data_mapFields hdi _));refine wpAny_bind (wpAny_setField h2 (Obj.data_mapFields hdi _) (by simp) ?_);refine wpAny_pure ⟨_,rfl,wpAny_pure (hQ _ ?_ ((Heap.SameBut.update ..).trans (Heap.SameBut.update ..)))⟩;exact⟨_,Heap.get?_update_self _ h2 (Obj.isFreed_of_fields (Obj.data_mapFields (Obj.data_mapFields hdi _) _)),(Obj.cls_mapFields ..).trans ((Obj.cls_mapFields ..).trans hci),by rw[Obj.data_mapFields (Obj.data_mapFields hdi _)];simp[rawInt]⟩
theorem Ma {I a:Addr}{o:Obj}{es:Array (Int×Value)}{ep i slot:Nat}{t:SetTable}{Q:Option Value->Shared->Prop}(hh:A.handled=none)(hI:It s.heap I a (rawInt (slot:Int)) i es.size ep)(hne:a≠I)(ho:s.heap.get? a=some o)(hd:o.data = .set es ep t)(hf:t.fits es.size=true)
  (hN:∀ (A':Around) (E':Value->Shared->Prop) (Q':Option (Value×Nat)->Shared->Prop),Q' none s->wpAny (model prog w) A' (setNext a slot i ep) Q' E' s)
  (hQ:∀ h',Heap.ExtBut I s.heap h'->Q none { s with heap:=h' }):wpAny (model prog w) A (pyNext (.ref I)) Q E s:=by
 obtain⟨oi,hoi,hci,hdi⟩:=id hI;unfold pyNext;refine wpAny_bind (wpAny_attempt (wpAny_callSpecial?_slot (name:=Str.ofString "__next__") hI.ty dG (wpAny_call_entry dG hI.ty iP ?_ (kS _))))
 unfold Builtin.«set_iterator.__next__»;refine wpAny_bind (wpAny_of_eq (a:=(Value.ref I,[])) rfl ?_)
 try dsimp only
 refine wpAny_bind (wpAny_fieldsOf hoi hdi ?_)
 dsimp only [rawInt]
 refine wpAny_bind (wpAny_setEntries_of ho hd hf ?_);rw[if_neg (by simp)];refine wpAny_bind (m:=setNext a (slot:Int).toNat (i:Int).toNat (ep:Int).toNat) ?_;rw[bt,bt,bt];refine hN _ _ _ ?_
 dsimp only
 refine wpAny_bind (wpAny_setField hoi hdi (by simp) ?_);refine wpAny_mono (Ai (α:=Unit) (I:=I) (s0:=s) (Q:=Q) (E:=E) hh fun h' kp=>hQ h' fun b ob hb eb=>kp b ob ((Heap.get?_update_other _ _ (Ne.symm hb)).trans eb)) (fun fin s' z=>z) fun e s' z=>z
theorem Fm {I a tp:Addr}{o ot:Obj}{es:Array (Int×Value)}{ep i p nt:Nat}{t:SetTable}{x:Int×Value}{ps:List Nat}{Q:Option Value->Shared->Prop}(hI:It s.heap I a (.ref tp) i es.size ep)(ho:s.heap.get? a=some o)(hd:o.data = .set es ep t)(hf:t.fits es.size=true)
  (hot:s.heap.get? tp=some ot) (hdt:ot.data = .seq (ps.map fun j:Nat=>rawInt (j:Int)).toArray nt) (hp:ps[i]?=some p) (hx:es[p]?=some x)
  (hQ:∀ h',It h' I a (.ref tp) (i+1) es.size ep->Heap.SameBut I s.heap h'->Q (some x.2) { s with heap:=h' }):wpAny (model prog w) A (pyNext (.ref I)) Q E s:=by
 obtain⟨oi,hoi,hci,hdi⟩:=id hI;unfold pyNext;refine wpAny_bind (wpAny_attempt (wpAny_callSpecial?_slot (name:=Str.ofString "__next__") hI.ty dG (wpAny_call_entry dG hI.ty iP ?_ (kS _))))
 unfold Builtin.«set_iterator.__next__»;refine wpAny_bind (wpAny_of_eq (a:=(Value.ref I,[])) rfl ?_)
 try dsimp only
 refine wpAny_bind (wpAny_fieldsOf hoi hdi ?_)
 dsimp only [rawInt]
 refine wpAny_bind (wpAny_setEntries_of ho hd hf ?_);rw[if_neg (by simp)];refine wpAny_bind (wpAny_seqItems hot hdt ?_)
 dsimp only
 rw[bt,kf,aj,hp]
 dsimp only [si,rawInt]
 refine wpAny_bind (m:=setNextDrawn a (p:Int).toNat (ep:Int).toNat) ?_;rw[bt,bt];unfold setNextDrawn;refine wpAny_bind (wpAny_setState_of ho hd hf ?_)
 dsimp only
 rw[bne_self_eq_false,if_neg ak,hx];refine wpAny_pure ?_;refine wpAny_bind (wpAny_setField hoi hdi (by simp) ?_);refine wpAny_pure ⟨_,rfl,wpAny_pure (hQ _ ?_ (Heap.SameBut.update ..))⟩;exact⟨_,Heap.get?_update_self _ hoi (Obj.isFreed_of_fields (Obj.data_mapFields hdi _)),(Obj.cls_mapFields ..).trans hci,by rw[Obj.data_mapFields hdi];simp[rawInt]⟩
theorem Ln {I a tp:Addr}{o ot:Obj}{es:Array (Int×Value)}{ep i nt:Nat}{t:SetTable}{ps:List Nat}{Q:Option Value->Shared->Prop}(hh:A.handled=none)(hI:It s.heap I a (.ref tp) i es.size ep)(ho:s.heap.get? a=some o)(hd:o.data = .set es ep t)(hf:t.fits es.size=true)
  (hot:s.heap.get? tp=some ot) (hdt:ot.data = .seq (ps.map fun j:Nat=>rawInt (j:Int)).toArray nt) (hp:ps[i]?=none)
  (hQ:∀ h',Heap.ExtBut I s.heap h'->Q none { s with heap:=h' }):wpAny (model prog w) A (pyNext (.ref I)) Q E s:=by
 obtain⟨oi,hoi,hci,hdi⟩:=id hI;unfold pyNext;refine wpAny_bind (wpAny_attempt (wpAny_callSpecial?_slot (name:=Str.ofString "__next__") hI.ty dG (wpAny_call_entry dG hI.ty iP ?_ (kS _))))
 unfold Builtin.«set_iterator.__next__»;refine wpAny_bind (wpAny_of_eq (a:=(Value.ref I,[])) rfl ?_)
 try dsimp only
 refine wpAny_bind (wpAny_fieldsOf hoi hdi ?_)
 dsimp only [rawInt]
 refine wpAny_bind (wpAny_setEntries_of ho hd hf ?_);rw[if_neg (by simp)];refine wpAny_bind (wpAny_seqItems hot hdt ?_)
 dsimp only
 rw[bt,kf,aj,hp]
 dsimp only [si]
 refine wpAny_bind (wpAny_setField hoi hdi (by simp) ?_);have h2:=Heap.get?_update_self (Obj.mapFields (·.setIfInBounds 0 (rawInt 0))) hoi (Obj.isFreed_of_fields (Obj.data_mapFields hdi _));refine wpAny_bind (wpAny_setField h2 (Obj.data_mapFields hdi _) (by simp) ?_);refine wpAny_mono (Ai (α:=Unit) (I:=I) (s0:=s) (Q:=Q) (E:=E) hh fun h' kp=>hQ h' fun b ob hb eb=>kp b ob ((Heap.get?_update_other _ _ (Ne.symm hb)).trans ((Heap.get?_update_other _ _ (Ne.symm hb)).trans eb))) (fun fin s' z=>z) fun e s' z=>z
theorem Bn {I a:Addr}{first:Value}{i n ep:Nat}{Q:Value->Shared->Prop}(hI:It s.heap I a first i n ep)(h:Q (.ref I) s):wpAny (model prog w) A (pyIter (.ref I)) Q E s:=by
 refine wpAny_pyIter_slot hI.ty sM (wpAny_call_entry sM hI.ty Ac ?_ (Cy _));show wpAny _ _ (ret (.ref I)) _ _ s;exact wpAny_pure ⟨_,rfl, "set_iterator",_,hI.ty,dG.lookup,h⟩
theorem uB {M:Model}{src:Source}{n:Nat}{Q:Nat->Shared->Prop}(hn:n≠0)(h:∀ i d,i<n->Q i { s with drawn:=d }):wpAny M A (choose src n) Q E s:=fun Γ p hΓ=>⟨hn,h _ _ (kl _ (l0 hn))⟩
theorem Kr {α:Type}:∀ (xs:List α) (s:Shared) (Q:List α->Shared->Prop),(∀ ys d,ys.Perm xs->Q ys { s with drawn:=d })->wpAny (model prog w) A (drawOrder xs.length xs) Q E s:=by
 intro xs;generalize hn:xs.length=n
 induction n generalizing xs with
 | zero =>
  intro s Q h;obtain rfl:=cj.mp hn;rw[drawOrder];exact wpAny_pure (h [] s.drawn (l9 _))
 | succ n ih =>
  intro s Q h
  cases xs with
  | nil=>cases hn
  | cons x xs =>
   rw[drawOrder]
   rotate_left
   ·intro z
    cases z
   refine wpAny_bind (uB (by simp) fun i d hi=>?_);rw[aa hi]
   dsimp only
   refine wpAny_bind (ih ((x::xs).eraseIdx i) (by rw[ma hi,hn];rfl) _ _ fun ys d2 hp=>wpAny_pure ?_);exact h _ d2 ((hp.cons _).trans (lU _ i hi))
end
theorem Gn {prog:Program}{w:World}{A:Around}{a I:Addr}{o:Obj}{es:Array (Int×Value)}{ep:Nat}{t:SetTable}{L:List (Int×Value)}{slots:Nat->Nat}(hh:A.handled=none)(hne:a≠I)(hd:o.data = .set es ep t)(hf:t.fits es.size=true)
  (hN:∀ (i:Nat) (s:Shared) (A':Around) (E':Value->Shared->Prop) (Q':Option (Value×Nat)->Shared->Prop),s.heap.get? a=some o->i<=L.length->Q' ((L[i]?).map fun e=>(e.2,slots (i+1))) s->wpAny (model prog w) A' (setNext a (slots i) i ep) Q' E' s) :
  Walks prog w A I [I,a] [I] L.length (fun i v=>(L.map (·.2))[i]?=some v) (fun i h=>h.get? a=some o∧It h I a (rawInt (slots i:Int)) i es.size ep) where
 sub:=fun b hb=>by simp at hb;simp[hb]
 frame:=fun _ _ _ y hk=>⟨hk a (by simp) o y.1,y.2.at fun o e=>hk I (by simp) o e⟩
 item:=fun i s Q E hi y hQ=>by
  refine Jg (x:=L[i].2) (nx:=slots (i+1)) y.2 hne y.1 hd hf (fun A' E' Q' q=>hN i s A' E' Q' y.1 (by omega) ?_) fun h' hit hs=>?_
  ·rw[aa hi]
   exact q
  ·exact hQ _ h' s.toks (by rw[aj,aa hi];rfl) ⟨(hs.2 a hne).trans y.1,hit⟩ fun b o hb eo=>hs.extBut b o (fun h=>hb (by simp[h])) eo
 done:=fun s Q E y hQ=>by
  refine Ma hh y.2 hne y.1 hd hf (fun A' E' Q' q=>hN L.length s A' E' Q' y.1 (af _) ?_) fun h' he=>hQ h' s.toks fun b o hb eo=>he b o (fun h=>hb (by simp[h])) eo
  rw[cp (af _)];exact q
 self:=fun _ _ _ _ y hQ=>Bn y.2 hQ
theorem Iu {prog:Program}{w:World}{A:Around}{a I tp:Addr}{o ot:Obj}{es:Array (Int×Value)}{ep nt:Nat}{t:SetTable}{ps:List Nat}(hh:A.handled=none)(hne:a≠I)(hnt:tp≠I)(hd:o.data = .set es ep t)(hf:t.fits es.size=true)
  (hdt:ot.data = .seq (ps.map fun j:Nat=>rawInt (j:Int)).toArray nt) (hps:∀ p∈ps,p<es.size) :
  Walks prog w A I [I,a,tp] [I] ps.length (fun i v=>(ps.map fun p=>(es.getD p (0,.none)).2)[i]?=some v) (fun i h=>h.get? a=some o∧h.get? tp=some ot∧It h I a (.ref tp) i es.size ep) where
 sub:=fun b hb=>by simp at hb;simp[hb]
 frame:=fun _ _ _ y hk=>⟨hk a (by simp) o y.1,hk tp (by simp) ot y.2.1,y.2.2.at fun o e=>hk I (by simp) o e⟩
 item:=fun i s Q E hi y hQ=>by
  have hp:ps[i]?=some ps[i]:=aa hi;have hlt:=hps _ (b6 hi);have hx:es[ps[i]]?=some (es[ps[i]]'hlt):=ei hlt;refine Fm y.2.2 y.1 hd hf y.2.1 hdt hp hx fun h' hit hs=>?_
  refine hQ _ h' s.toks ?_ ⟨(hs.2 a hne).trans y.1,(hs.2 tp hnt).trans y.2.1,hit⟩ fun b o hb eo=>hs.extBut b o (fun h=>hb (by simp[h])) eo
  rw[aj,hp];show some (es.getD ps[i] (0,Value.none)).2=_;rw[fe,hx];rfl
 done:=fun s Q E y hQ=>Ln hh y.2.2 y.1 hd hf y.2.1 hdt (cp (af _)) fun h' he=>hQ h' s.toks fun b o hb eo=>he b o (fun h=>hb (by simp[h])) eo
 self:=fun _ _ _ _ y hQ=>Bn y.2.2 hQ
theorem xW {w:World}:∀ L:List (Int×Value),(∀ e∈L,El w e)->StrsAre (L.map (·.2)) (L.map fun e=>lV e.2)
 | [],_=>.nil
 | e::L,h=>by
  obtain⟨_,tk,q⟩:=h e (am ..);rw[a0,a0];have r:=xW L fun x hx=>h x (ai _ hx)
  have z:StrsAre (Value.str (lV e.2) tk::L.map (·.2)) (lV e.2::L.map fun e=>lV e.2):=.cons _ _ r;rw[<- q] at z;exact z
section
variable {prog:Program}{w:World}{A:Around}{E:Value->Shared->Prop}{s:Shared}
theorem Kq {a:Addr}{ms:List Str}{Q:Value->Shared->Prop}(hS:Is w s.heap a ms)
  (h:∀ (h':Heap) (d:Drawn) (I:Addr) (fp:List Addr) (xs:List Value) (ss:List Str) (St:Nat->Heap->Prop),(∀ A':Around,A'.handled=none->Walks prog w A' I fp [I] xs.length (fun i v=>xs[i]?=some v) St)->St 0 h' ->
   (∀ b o,s.heap.get? b=some o->h'.get? b=some o)->s.heap.objs.size<=I->(∀ b∈fp,b=a∨s.heap.objs.size<=b)->StrsAre xs ss->ss.Perm ms->Q (.ref I) { s with heap:=h',drawn:=d }) :
  wpAny (model prog w) A (pyIter (.ref a)) Q E s:=by
 obtain⟨o,es,ep,t,ho,hex,hd,hel,hnd,hb,hf,hl,hp⟩:=id hS;have hlt:=Heap.lt_size ho;have hps:t.place.size=es.size:=by
  simp only [SetTable.fits,dg,beq_iff_eq] at hf;exact hf.1
 refine wpAny_pyIter_slot hS.ty F.slot_set_iter (wpAny_call_entry F.slot_set_iter hS.ty yN ?_ (F.args_set_iter_1 _));unfold Builtin.«frozenset.__iter__»;refine wpAny_bind (m:=Builtin.Frozenset.slot0 "__iter__" ⟨[.ref a],[]⟩) (wpAny_of_eq (a:=a) rfl ?_)
 unfold Builtin.Frozenset.sizeOf;refine wpAny_bind (wpAny_bind (wpAny_setEntries_of ho hd hf (wpAny_pure ?_)));have hlist:∀ L:List (Int×Value),L.Perm es.toList->StrsAre (L.map (·.2)) (L.map fun e=>lV e.2)∧(L.map fun e=>lV e.2).Perm ms:=fun L hp=>⟨xW L (hel.perm hp).1,(hel.perm hp).2⟩
 have fin:∀ (L:List (Int×Value)) (slots:Nat->Nat),slots 0=0->L.Perm es.toList->(∀ (i:Nat) (s:Shared) (A':Around) (E':Value->Shared->Prop) (Q':Option (Value×Nat)->Shared->Prop),s.heap.get? a=some o->i<=L.length->Q' ((L[i]?).map fun e=>(e.2,slots (i+1))) s->wpAny (model prog w) A' (setNext a (slots i) i ep) Q' E' s) ->
   wpAny (model prog w) A.in1 (setEpoch a >>= fun e=>newFields "set_iterator" [rawInt 0,rawInt 0,.ref a,rawInt (es.size:Int),rawInt (e:Int)] >>= ret) (fun fin s'=>∃ v,fin = .done (.ret v)∧∃ (T:String) (r:Value),s'.TypeIs v T∧typeLookup (.type T) "__next__" = pure (some r)∧Q v s') E s:=fun L slots h0 hL hN=>by
  refine wpAny_bind (wpAny_setEpoch_of ho hd hf ?_);have hI:It (s.heap.push { cls:=.type "set_iterator",data:=.fields #[rawInt 0,rawInt 0,.ref a,rawInt (es.size:Int),rawInt (ep:Int)] }) s.heap.objs.size a (rawInt (slots 0:Int)) 0 es.size ep:=⟨_,Heap.get?_push_size _ rfl,rfl,by rw[h0];rfl⟩
  obtain⟨q1,q2⟩:=hlist L hL;refine wpAny_bind (wpAny_newObj_type (wpAny_pure ⟨_,rfl, "set_iterator",_,⟨_,Heap.get?_push_size _ rfl,rfl⟩,dG.lookup,?_⟩))
  have z:=h (s.heap.push { cls:=.type "set_iterator",data:=.fields #[rawInt 0,rawInt 0,.ref a,rawInt (es.size:Int),rawInt (ep:Int)] }) s.drawn s.heap.objs.size [s.heap.objs.size,a] (L.map (·.2)) _ (fun i h=>h.get? a=some o∧It h s.heap.objs.size a (rawInt (slots i:Int)) i es.size ep) (fun A' hA'=>by
     rw[aR];exact Gn hA' (ay hlt) hd hf hN) ⟨Heap.get?_push_of_some _ ho,hI⟩ (fun b o e=>Heap.get?_push_of_some _ e) (af _) (fun b hb=>by
     rcases au.mp hb with rfl | hb
     · exact .inr (af _)
     · exact .inl (aq.mp hb)) q1 q2
  exact z
 have hdrw:∀ (Q':Bool->Shared->Prop),Q' (!byT w&&(!t.plain&&decide (es.size>1))) s->wpAny (model prog w) A.in1 (setDrawn a) Q' E s:=fun Q' q=>by
  unfold setDrawn;refine wpAny_bind (wpAny_setState_of ho hd hf ?_)
  dsimp only
  exact wpAny_bind (fG (wpAny_pure q))
 refine wpAny_bind (hdrw _ ?_);by_cases hby:byT w=true
 ·rw[hby]
  simp only [ky,ou,cm,↓reduceIte];refine wpAny_bind (wpAny_pure ?_);refine fin (pickOrder (w.params.setOrder a ep) es).toList (fun _=>0) rfl (tT _ _) fun i s' A' E' Q' ho' hi q=>?_
  unfold setNext;refine wpAny_bind (wpAny_setState_of ho' hd hf ?_)
  dsimp only
  refine wpAny_bind (fG ?_);rw[hby,if_pos rfl,bne_self_eq_false,if_neg ak];unfold setWalk;refine wpAny_bind (wpAny_bind (wpAny_setState_of ho' hd hf ?_))
  dsimp only
  refine wpAny_bind (fG ?_);rw[hby,if_pos rfl];refine wpAny_bind (wpAny_askSetting (wpAny_pure (wpAny_pure ?_)));rw[et] at q;exact q
 ·have hbf:byT w=false:=j5.mpr hby
  have hld:t.led=true:=hl.resolve_left hby;by_cases h1:es.size<=1
  ·have hnot:(!byT w&&(!t.plain&&decide (es.size>1)))=false:=by rw[decide_eq_false (by omega)];simp
   rw[hnot];simp only [cm,↓reduceIte];refine wpAny_bind (wpAny_pure ?_);have hN:∀ (slot i:Nat) (s':Shared) (A':Around) (E':Value->Shared->Prop) (Q':Option (Value×Nat)->Shared->Prop),s'.heap.get? a=some o ->
       Q' (match es[SetTable.below t.place slot]?,t.place[SetTable.below t.place slot]? with | some (_,x),some j=>some (x,j+1) | _,_=>none) s'->wpAny (model prog w) A' (setNext a slot i ep) Q' E' s':=fun slot i s' A' E' Q' ho' q=>by
     unfold setNext;refine wpAny_bind (wpAny_setState_of ho' hd hf ?_)
     dsimp only
     refine wpAny_bind (fG ?_);rw[hbf,if_neg ak];have hdr:(!t.plain&&decide (es.size>1))=false:=by rw[decide_eq_false (by omega)];simp
     show wpAny _ _ (if (!t.plain&&decide (es.size>1))=true then _ else _) _ _ s';rw[hdr,if_neg ak];refine wpAny_bind (m:=if (!t.led && !es.isEmpty)=true then unsupported "set:maker-not-led" else pure ()) ?_
     rw[hld];simp only [ky,ou,cm,↓reduceIte];exact wpAny_pure (wpAny_pure q)
   by_cases h0:es.size=0
   · have ee:es = #[]:=kq h0
     refine fin [] (fun _=>0) rfl (by rw[ee]) fun i s' A' E' Q' ho' hi q=>hN 0 i s' A' E' Q' ho' ?_
     rw[ee,j6 (by simp)];exact q
   · obtain⟨e0,he0⟩:∃ e0,es = #[e0]:=by
       obtain⟨l⟩:=es
       match l,h0,h1 with
       | [e0],_,_=>exact⟨e0,rfl⟩
       | [],h,_=>exact absurd rfl h
       | _::_::_,_,h=>simp at h
     obtain⟨j,hj⟩:∃ j,t.place = #[j]:=by
       rw[he0] at hps
       cases hpl:t.place with
       | mk l =>
         rw[hpl] at hps
         match l,hps with
         | [j],_=>exact⟨j,rfl⟩
     refine fin [e0] (fun i=>if i=0 then 0 else j+1) rfl (by rw[he0]) fun i s' A' E' Q' ho' hi q=>hN _ i s' A' E' Q' ho' ?_
     have b0:SetTable.below #[j] 0=0:=by
       simp[SetTable.below,SetTable.below.go]
     have b1:SetTable.below #[j] (j+1)=1:=by
       simp[SetTable.below,SetTable.below.go]
     match i,hi with
     | 0,_ =>
       rw[if_pos rfl,hj,b0,he0];exact q
     | 1,_ =>
       rw[if_neg (by decide),hj,b1,he0];exact q
  ·have hpl:t.plain=false:=hp.resolve_left (by omega)
   have hyes:(!byT w&&(!t.plain&&decide (es.size>1)))=true:=by rw[hbf,hpl,decide_eq_true (by omega)];rfl
   rw[hyes,if_pos rfl];have hr:(cu es.size).length=es.size:=gi;refine wpAny_bind (m:=drawOrder es.size (cu es.size)) ?_;have dr:=Kr (prog:=prog) (w:=w) (A:=A.in1) (E:=E) (cu es.size) s;rw[hr] at dr;refine dr _ fun ps d hpp=>?_
   have hpl:ps.length=es.size:=by rw[hpp.length_eq,hr]
   have hs:sizeLine=16777216:=sizeLine_eq;have sb:scanBound=4096:=rfl;refine wpAny_bind (wpAny_newTuple ?_ (by rw[aR];omega));generalize hot:({ cls:=.type "tuple",data:=.seq (ps.map fun j:Nat=>rawInt (j:Int)).toArray }:Obj)=ot
   have hg:(s.heap.push ot).get? s.heap.objs.size=some ot:=Heap.get?_push_size _ (by rw[<- hot];rfl);have ho2:(s.heap.push ot).get? a=some o:=Heap.get?_push_of_some _ ho;refine wpAny_bind (wpAny_setEpoch_of (s:={ s with heap:=s.heap.push ot,drawn:=d }) ho2 hd hf ?_);refine wpAny_bind (wpAny_newObj_type (wpAny_pure ⟨_,rfl, "set_iterator",_,⟨_,Heap.get?_push_size _ rfl,rfl⟩,dG.lookup,?_⟩))
   have hsz:(s.heap.push ot).objs.size=s.heap.objs.size+1:=Heap.size_push _ _;have hfm:(ps.map fun p=>es.getD p (0,Value.none)).Perm es.toList:=by
     have e1:(cu es.size).map (fun p=>es.getD p (0,Value.none))=es.toList:=by
       apply nj
       · simp
       · intro i g1 g2
         have g3:i<es.size:=by simpa using g1
         simp[fe,g3]
     exact (hpp.map _).trans (by rw[e1])
   obtain⟨q1,q2⟩:=hlist _ hfm;rw[bf,bf] at q1;rw[bf] at q2;have hps':∀ p∈ps,p<es.size:=fun p hp=>de.mp (hpp.mem_iff.mp hp)
   have hgo:∀ (o2:Obj),o2 = { cls:=.type "set_iterator",data:=.fields #[.ref s.heap.objs.size,rawInt 0,.ref a,rawInt (es.size:Int),rawInt (ep:Int)] }->Q (.ref (s.heap.objs.size+1)) { s with heap:=(s.heap.push ot).push o2,drawn:=d }:=fun o2 ho2'=>by
    refine h ((s.heap.push ot).push o2) d (s.heap.objs.size+1) [s.heap.objs.size+1,a,s.heap.objs.size] (ps.map fun p=>(es.getD p (0,Value.none)).2) _ (fun i h=>h.get? a=some o∧h.get? s.heap.objs.size=some ot∧It h (s.heap.objs.size+1) a (.ref s.heap.objs.size) i es.size ep) (fun A' hA'=>by
        rw[aR];exact Iu (ot:=ot) (nt:=0) hA' (ay (d6 hlt)) (ay (gu _)) hd hf (by rw[<- hot]) hps') ⟨Heap.get?_push_of_some _ ho2,Heap.get?_push_of_some _ hg,?_⟩ (fun b o e=>Heap.get?_push_of_some _ (Heap.get?_push_of_some _ e)) (gr _) (fun b hb=>?_) q1 q2
    · rw[<- hsz]
      exact⟨o2,Heap.get?_push_size _ (by rw[ho2'];rfl),by rw[ho2'],by rw[ho2'];rfl⟩
    · rcases au.mp hb with rfl | hb
      · exact .inr (gr _)
      · rcases au.mp hb with rfl | hb
        · exact .inl rfl
        · exact .inr (lm (aq.mp hb).symm)
   have z:=hgo _ rfl;rw[<- hsz] at z;exact z
end
theorem Gw {xs:List Value}{acc:Array Value}(h:ItemsOf (fun i v=>xs[i]?=some v) acc xs.length):acc.toList=xs:=by
 apply j4;intro i;rw[et]
 cases e:acc[i]? with
 | some v=>exact (h.2 i v e).symm
 | none =>
  have:acc.size<=i:=by
   rcases fm i acc.size with z | z
   ·rw[ei z] at e;cases e
   ·exact z
  rw[cp (by rw[<- h.1];exact this)]
section
variable {prog:Program}{w:World}{A:Around}{E:Value->Shared->Prop}{s:Shared}
theorem Mg {a:Addr}{ms:List Str}{Q:Bool->Shared->Prop}(hS:Is w s.heap a ms)(h:Q false s):wpAny (model prog w) A (Builtin.List.listLengthHint (.ref a)) Q E s:=by
 unfold Builtin.List.listLengthHint;refine wpAny_bind (wpAny_specialOf hS.ty F.slot_set_len.lookup ?_);generalize hid:("set.__len__" : String)=id0
 wp_delta
 rw[show splitId id0=some ("set", "__len__") from by subst hid;decide +kernel]
 subst hid;refine wpAny_bind (wpAny_isInstance (T := "set") (b:=true) hS.ty sub_set_self ?_)
 refine wpAny_ite_split (fun hab=>absurd hab (by decide)) (fun _=>?_);refine wpAny_ite_split (fun _=>?_) (fun hab=>absurd (by decide +kernel) hab);refine wpAny_bind (wpAny_typeOf hS.ty ?_);exact wpAny_pure h
theorem Ed {a:Addr}{ms:List Str}{R:Result->Shared->Prop}(hh:A.handled=none)(hS:Is w s.heap a ms)(hz:ms.length<=sizeLine)(S:Addr)(res:Value)(h1:S≠a)(hSl:s.heap.get? S=some { cls:=.type "list",data:=.seq #[] })
  (hR:∀ s' acc' c' ss,(∀ b o,b≠S->s.heap.get? b=some o->s'.heap.get? b=some o)->s'.gens=s.gens->s'.os=s.os->s'.heap.get? S=some { cls:=.type "list",dict:=none,data:=.seq acc' c',slots:=#[] }->StrsAre acc'.toList ss->ss.Perm ms->R (.ok (.ret res)) s') :
  wpAny (model prog w) A.in1 (Builtin.List.listExtendWith (.ref S) (.ref a) res)
   (fun fin s'=>match fin with | .done f=>R (.ok f) s' | .again c'=>c'.quiet=true∧codeAny (model prog w) A c' R s') (fun e s'=>R (.error e) s') s:=by
 unfold Builtin.List.listExtendWith;refine wpAny_bind (wpAny_typeOf hS.ty ?_);have g1:Builtin.List.listSameRef (.ref S) (.ref a)=false:=by simp[Builtin.List.listSameRef,h1]
 have g2:(Value.type "set" == Value.type "list")=false:=by decide
 have g3:(Value.type "set" == Value.type "tuple")=false:=by decide
 simp only [g1,g2,g3,gs,cm,if_false];refine wpAny_bind (Kq (A:=A.in1) hS fun h2 d I fp xs ss St W st0 kp hIs hfp hss hpm=>?_);have hlt:=Heap.lt_size hSl;have hSI:S≠I:=ay (bj hlt hIs);have hSf:S∉fp:=fun z=>by
  rcases hfp S z with e | e
  ·exact h1 e
  ·exact absurd hlt (kr.mpr e)
 have hS2:Is w h2 a ms:=hS.at fun o e=>kp a o e
 refine wpAny_bind (wpAny_holding (Mg (s:={ s with heap:=h2,drawn:=d }) hS2 ?_));have WS:=(W A.in1 hh).toS;have hxl:xs.length=ms.length:=by rw[hss.length,hpm.length_eq]
 have last:∀ (h0:Heap) (c0:Nat),(∀ b o,b≠S->h2.get? b=some o->h0.get? b=some o)->h0.get? S=some { cls:=.type "list",data:=.seq #[] c0 } ->
   wpAny (model prog w) A.in1 (again (.builtin "list.extend.loop" ⟨[.ref S,.ref I,res],[]⟩))
    (fun fin s'=>match fin with | .done f=>R (.ok f) s' | .again c'=>c'.quiet=true∧codeAny (model prog w) A c' R s') (fun e s'=>R (.error e) s') { s with heap:=h0,drawn:=d }:=fun h0 c0 hk0 hS0=>by
  refine wpAny_pure ⟨plainId_quiet F.plain_extend_loop _,codeAny_extend_loopS WS (by omega) S hSf res xs.length 0 _ #[] c0 rfl (bi _) ?_ hS0 (ItemsOf.nil _) fun s' acc' c' hm hS' hacc=>?_⟩
  ·exact (W A.in1 hh).frame 0 h2 h0 st0 fun b hb o e=>hk0 b o (fun z=>hSf (z▸hb)) e
  ·refine hR s' acc' c' ss (fun b o hb e=>?_) hm.gens hm.os hS' (by rw[Gw hacc];exact hss) hpm
   by_cases hbI:b=I
   ·subst hbI
    exact absurd (Heap.lt_size e) (kr.mpr hIs)
   ·exact hm.heap b o (by simp[hb,hbI]) (hk0 b o hb (kp b o e))
 refine wpAny_ite_split (fun _=>?_) (fun hab=>absurd (by decide +kernel) hab);refine wpAny_bind (wpAny_rule ?_);have hSl2:h2.get? S=some { cls:=.type "list",data:=.seq #[] }:=kp S _ hSl
 refine wpAny_bind (m:=((do updateSeq S (fun z=>z.push .none);updateSeq S (fun z=>z.pop)):Sem Unit)) (wpAny_bind (wpAny_updateSeq (s:={ s with heap:=h2,drawn:=d }) hSl2 rfl ?_));have k1:=Heap.get?_update_self (Obj.mapSeq (fun z=>z.push .none)) hSl2 rfl;refine wpAny_updateSeq k1 rfl ?_;have k2:=Heap.get?_update_self (Obj.mapSeq (fun z=>z.pop)) k1 rfl;exact last _ _ (fun b o hb e=>(Heap.get?_update_other _ _ (Ne.symm hb)).trans ((Heap.get?_update_other _ _ (Ne.symm hb)).trans e)) k2
theorem zX {a:Addr}{ms:List Str}{Q:List Value->Shared->Prop}(hh:A.handled=none)(hS:Is w s.heap a ms)(hz:ms.length<=sizeLine)
  (hQ:∀ s' vs ss,(∀ b o,s.heap.get? b=some o->s'.heap.get? b=some o)->s'.gens=s.gens->s'.os=s.os->StrsAre vs ss->ss.Perm ms->Q vs s'):wpAny (model prog w) A (collect (.ref a)) Q E s:=by
 have hlt:=Heap.lt_size hS.there.choose_spec;unfold collect;refine wpAny_bind (wpAny_runValue (codeAny_builtin F.entry_proto_collect ?_));rw[Around.under_plainId F.plain_proto_collect];refine wpAny_bind (m:=newList []) (wpAny_newObj_type (wpAny_pure ⟨plainId_quiet F.plain_list_iadd _,codeAny_builtin F.entry_list_iadd ?_⟩));rw[Around.under_plainId F.plain_list_iadd];have hSl:(s.heap.push { cls:=.type "list",data:=.seq #[] }).get? s.heap.objs.size=some { cls:=.type "list",data:=.seq #[] }:=Heap.get?_push_size _ rfl
 have go:∀ R:Result->Shared->Prop,(∀ s' acc' c' ss,(∀ b o,s.heap.get? b=some o->s'.heap.get? b=some o)->s'.gens=s.gens->s'.os=s.os->s'.heap.get? s.heap.objs.size=some { cls:=.type "list",dict:=none,data:=.seq acc' c',slots:=#[] }->StrsAre acc'.toList ss->ss.Perm ms->R (.ok (.ret (.ref s.heap.objs.size))) s') ->
   wpAny (model prog w) A.in1 (Builtin.List.listExtendWith (.ref s.heap.objs.size) (.ref a) (.ref s.heap.objs.size))
    (fun fin s'=>match fin with | .done f=>R (.ok f) s' | .again c'=>c'.quiet=true∧codeAny (model prog w) A c' R s') (fun e s'=>R (.error e) s') { s with heap:=s.heap.push { cls:=.type "list",data:=.seq #[] } }:=fun R hR =>
  Ed (A:=A) (s:={ s with heap:=s.heap.push { cls:=.type "list",data:=.seq #[] } }) hh (hS.at fun o e=>Heap.get?_push_of_some _ e) hz s.heap.objs.size (.ref s.heap.objs.size) (fu hlt) hSl
   fun s' acc' c' ss kp g1 g2 e1 e2 e3=>hR s' acc' c' ss (fun b o e=>kp b o (ay (Heap.lt_size e)) (Heap.get?_push_of_some _ e)) g1 g2 e1 e2 e3
 refine go (fun r s'=>match r with
  | .ok (.ret v)=>wpAny (model prog w) A (match v with
   | .ref a=>do
    match (<- load a).data with
    | .seq xs _=>pure xs.toList
    | _=>unsupported "internal:collect"
   | _=>unsupported "internal:collect") Q E s'
  | .ok _=>False
  | .error e=>E e s') fun s' acc' c' ss kp g1 g2 hS' e2 e3=>?_
 refine wpAny_bind (m:=load s.heap.objs.size) (wpAny_load hS' (wpAny_pure ?_));exact hQ s' acc'.toList ss kp g1 g2 e2 e3
theorem Du (a:Value){Q₁:Value->Shared->Prop}(h:Q₁ (.ref s.heap.objs.size) { s with heap:=s.heap.push (dE w) }):codeAny (model prog w) A (.call (.builtin "set.__new__") ⟨[.type "set",a],[]⟩) (wants Q₁ E) s:=by
 refine codeAny_of_tree (show wpAny _ A.in1 (do checkBuiltinCall "set.__new__" ⟨[.type "set",a],[]⟩;again (.builtin "set.__new__" ⟨[.type "set",a],[]⟩)) _ _ s from ?_)
 refine wpAny_bind (wpAny_of_eq (F.newCall_set_1 a) (wpAny_pure ⟨plainId_quiet F.plain_set_new _,codeAny_builtin F.entry_set_new ?_⟩));rw[Around.under_plainId F.plain_set_new _];unfold Builtin.«set.__new__» Builtin.Frozenset.newClass;have hsub:=sub_set_self;obtain⟨hp,g,d,tk,os⟩:=s
 dsimp only
 wp_walk
 refine wpAny_askSetting (wpAny_pure ?_)
 dsimp only
 simp only [newObj];refine wpAny_bind (wpAny_alloc (wpAny_pure (wpAny_pure h)))
end
end SS
namespace L2
open PySem PySem.Spec PyProof.Rows
namespace SE
def Of (w:World)(h:Heap)(D:Addr)(ls:List (List Nat))(i:Nat):Prop:=∃ ms,SS.Is w h D ms∧(∀ x,x∈ms↔x∈(ls.take i).map tx)∧ms.length<=i
theorem Of.at {w:World}{h h':Heap}{D:Addr}{ls:List (List Nat)}{i:Nat}(x:Of w h D ls i)(k:∀ o,h.get? D=some o->h'.get? D=some o):Of w h' D ls i:=let ⟨ms,a,b⟩:=x;⟨ms,a.at k,b⟩
section
variable {prog:Program}{w:World}{A:Around}{R:Result->Shared->Prop}{J:Addr}{fp wr:List Addr}{G:Array GenState->Array GenState->Prop}{n:Nat}{P:Nat->Value->Prop}{St:Nat->Shared->Prop}
theorem Rh (W:WalksS prog w A.in1 J fp wr G n P St){D:Addr}(hD:D∉fp)(ls:List (List Nat))(hv:∀ i v,P i v->∃ t,v=Value.str (tx (ls.getD i [])) t)(hn:n+1<scanBound)(hnl:n<=ls.length) :
  ∀ (k i:Nat) (s:Shared),n-i=k->i<=n->St i s->Of w s.heap D ls i ->
   (∀ s',Moved (D::wr) G s s'->Of w s'.heap D ls n->R (.ok (.ret .none)) s')->codeAny (model prog w) A (.builtin "set.update.loop" ⟨[.ref D,.ref J],[]⟩) R s:=by
 have hDw:D∉wr:=fun z=>hD (W.sub _ z)
 have up:∀ b∈wr,b∈D::wr:=fun b hb=>.tail _ hb
 intro k
 induction k with
 | zero =>
  intro i s hk hi st hs hR;obtain rfl:i=n:=by omega
  refine codeAny_builtin ej ?_;rw[Around.under_plainId df];refine wpAny_bind (m:=pyNext (.ref J)) (W.done s _ _ st fun s2 mv=>?_);exact (show wpAny _ A.in1 (ret Value.none) _ _ s2 from wpAny_pure (hR s2 (mv.mono up) (hs.at fun o e=>mv.heap D o hDw e)))
 | succ k ih =>
  intro i s hk hi st hs hR;have hlt:i<n:=by omega
  refine codeAny_builtin ej ?_;rw[Around.under_plainId df];refine wpAny_bind (m:=pyNext (.ref J)) (W.item i s _ _ hlt st fun v s2 pv st2 mv=>?_);obtain⟨t,rfl⟩:=hv i v pv;have hs2:=hs.at fun o e=>mv.heap D o hDw e
  refine wpAny_bind (m:=holding [Value.str (tx (ls.getD i [])) t] (setAdd D (.str (tx (ls.getD i [])) t))) (wpAny_holding ?_);unfold setAdd;refine wpAny_holding (wpAny_bind ((eu prog w).pyHash (k:=tx (ls.getD i [])) (strKind_is _ _ _ _) ?_));obtain⟨ms,hi1,hi2,hi3⟩:=hs2;refine SS.Hh (s:={ s2 with toks:=s2.toks+1 }) hi1 (by omega) fun h3 ms3 sb i3 m3 l3=>?_
  have x4:Of w h3 D ls (i+1):=by
   refine⟨ms3,i3,fun x=>?_,by omega⟩;have e:ls.take (i+1)=ls.take i++[ls.getD i []]:=by
    rw[br,ah,aa (by omega)];rfl
   rw[m3,hi2,e,ax,a6,a0,je,aq]
  refine wpAny_pure ⟨plainId_quiet df _,ih (i+1) _ (by omega) hlt (W.frame _ s2 _ _ st2 (gr _) fun b hb o e=>(sb.2 b fun z=>hD (z▸hb)).trans e) x4 fun s5 m5 x5=>?_⟩;refine hR s5 (Moved.trans W.gtrans ((mv.mono up).then_heap (gr _) fun b o hb e=>(sb.2 b fun z=>hb (z▸.head _)).trans e) m5) x5
variable {E:Value->Shared->Prop}{s:Shared}
theorem Hc {l:Addr}{its:Array Value}{ls:List (List Nat)}{Q:Value->Shared->Prop}(hh:A.handled=none)(hl:s.heap.IsList l its)(hv:∀ i v,its[i]?=some v->∃ t,v=Value.str (tx (ls.getD i [])) t)(hn:its.size+1<scanBound)(hnl:its.size<=ls.length)
  (h:∀ (h':Heap) (tk:Nat),Of w h' s.heap.objs.size ls its.size->(∀ b o,s.heap.get? b=some o->h'.get? b=some o)->Q (.ref s.heap.objs.size) { s with heap:=h',toks:=tk }) :
  wpAny (model prog w) A (call (.type "set") [.ref l]) Q E s:=by
 obtain⟨mc,mt,f0⟩:=F.called_set.mro;have f1:=F.called_set.made;have f2:=F.called_set.sub;have f3:=F.called_set.notType;have f4:=F.called_set.canCreate;have f5:=F.typeCall_set_1 (.ref l);refine wpAny_call (codeAny_of_tree (show wpAny _ _ (callAny (.type "set") _) _ _ _ from wpAny_pure ⟨Code.quiet_builtin _ (by decide +kernel),codeAny_builtin F.entry_type_call ?_⟩))
 rw[Around.under_plain (weight_type_call_type "set" [.ref l] []) rfl]
 repeat (any_goals (first | wp_step | assumption))
 refine codeAny_mono (SS.Du (.ref l) (E:=E) (Q₁:=fun ob s1=>ob = .ref s.heap.objs.size∧s1 = { s with heap:=s.heap.push (SS.dE w) }) ⟨rfl,rfl⟩) fun r s1 hr=>?_
 cases r with
 | error e=>exact hr
 | ok fl =>
  cases fl with
  | ret ob =>
   obtain⟨rfl,rfl⟩:=hr;generalize hob:SS.dE w=ob;have hD:(s.heap.push ob).get? s.heap.objs.size=some ob:=Heap.get?_push_size _ (by rw[<- hob];rfl);have hT:Shared.TypeIs { s with heap:=s.heap.push ob } (.ref s.heap.objs.size) "set" := ⟨_,hD,by rw[<- hob];rfl⟩
   have f6:=F.called_set.init.lookup;have f7:=F.called_set.init.bind (.ref s.heap.objs.size)
   repeat (any_goals (first | wp_step | assumption))
   refine codeAny_mono (codeAny_call_builtin (R:=wants (fun r s2=>r = .none∧∃ h' tk,s2 = { s with heap:=h',toks:=tk }∧Of w h' s.heap.objs.size ls its.size∧∀ b o,s.heap.get? b=some o->h'.get? b=some o) E)
    F.called_set.init.plain F.entry_set_init (check_set_init_1 hT ?_)) fun r2 s2 hr2=>?_
   ·obtain⟨⟨oc,od,odt,osl⟩,hol,hcl,nl,hdl⟩:=id hl
    simp only at hcl hdl;subst hcl hdl;have hol':(s.heap.push ob).get? l=some { cls:=.type "list",dict:=od,data:=.seq its nl,slots:=osl }:=Heap.get?_push_of_some _ hol
    have f8:=F.sub_list_set;have f9:=F.sub_list_frozenset;have f10:(Value.type "list" == Value.type "dict")=false:=by decide
    have hl1:(s.heap.push ob).IsList l its:=⟨_,hol',rfl,nl,rfl⟩;subst hob;unfold Builtin.«set.__init__» noKeywords Builtin.Frozenset.updateFrom;generalize hPI:pyIter=PI
    wp_walk
    subst hPI;refine wpAny_pyIter_list hl1 ?_;refine wpAny_bind (wpAny_runValue ?_);have hlt:l<s.heap.objs.size:=Heap.lt_size hol;have hh3:A.in1.in1.in1.handled=none:=by simp[hh]
    have hsz:(s.heap.push (SS.dE w)).objs.size=s.heap.objs.size+1:=Heap.size_push _ _;have hne:l≠(s.heap.push (SS.dE w)).objs.size:=by rw[hsz];exact ay (d6 hlt)
    have hfp:s.heap.objs.size∉[(s.heap.push (SS.dE w)).objs.size,l]:=by
     rw[hsz];intro z;rcases au.mp z with e | e
     ·exact ay (gu _) e
     ·exact fu hlt (aq.mp e)
    refine Rh ((Walks.list hh3 _ l hne its).toS) (D:=s.heap.objs.size) hfp ls hv hn hnl (its.size-0) 0 _ (by omega) (bi _) ⟨⟨_,Heap.get?_push_size _ rfl,rfl,rfl⟩,hl1.push _⟩ ?_ fun s3 mv x3=>?_
    ·have hg:((s.heap.push (SS.dE w)).push { cls:=.type "list_iterator",data:=.fields #[.ref l,.int 0 0] }).get? s.heap.objs.size=some (SS.dE w):=Heap.get?_push_of_some _ hD
     exact⟨[],(SS.Is.fresh s.heap).at fun o e=>Heap.get?_push_of_some _ e,fun x=>by simp,bi _⟩
    ·obtain⟨h3,g3,d3,tk3,os3⟩:=s3
     obtain rfl:g3=s.gens:=mv.gens;obtain rfl:d3=s.drawn:=mv.drawn;obtain rfl:os3=s.os:=mv.os;refine wpAny_pure (show wpAny _ _ (ret Value.none) _ _ _ from wpAny_pure ⟨rfl,h3,tk3,rfl,x3,fun c o e=>?_⟩);have hc:=Heap.lt_size e;exact mv.heap c o (show c∉[s.heap.objs.size,(s.heap.push (SS.dE w)).objs.size] by
      rw[hsz];intro z;rcases au.mp z with e | e
      ·exact ay hc e
      ·exact ay (d6 hc) (aq.mp e)) (Heap.get?_push_of_some _ (Heap.get?_push_of_some _ e))
   ·cases r2 with
    | error e=>exact hr2
    | ok fl2 =>
     cases fl2 with
     | ret r =>
      obtain⟨rfl,h3,tk,rfl,x3,k3⟩:=hr2
      repeat (any_goals (first | wp_step | assumption))
      exact h _ _ x3 k3
     | _=>exact hr2.elim
  | _=>exact hr.elim
end
end SE
def kW (w:World)(D:Addr)(ms:List (List Nat)):HO:=.ext fun h=>SS.Is w h D (ms.map tx)
theorem pV {ls:List (List Nat)}{x:Str}:x∈ls.map tx↔x.cps.toList∈ls:=by
 rw[ar];constructor
 ·rintro⟨l,h,rfl⟩
  rw[cZ];exact h
 ·intro h
  exact⟨_,h,iN x⟩
theorem Lq {w:World}{h:Heap}{D:Addr}{ms ms':List Str}(x:SS.Is w h D ms)(p:ms.Perm ms'):SS.Is w h D ms':=by
 obtain⟨o,es,ep,t,ho,hex,hd,hel,hnd,r⟩:=x;exact⟨o,es,ep,t,ho,hex,hd,⟨hel.1,hel.2.trans p⟩,p.nodup_iff.mp hnd,r⟩
theorem xY {w:World}{h:Heap}{D:Addr}{ms:List Str}(x:SS.Is w h D ms):ms.Nodup:=let ⟨_,_,_,_,_,_,_,_,n,_⟩:=x;n
theorem Fw {ls:List (List Nat)}(h:ls.Nodup):(ls.map tx).Nodup:=by
 refine fk.mpr (h.imp fun hne e=>hne (eF e))
section
variable {X:Cx}
theorem uO {pins:List (Addr×Obj)}{σ:St}{H:Hp}{s:Shared}{D:Addr}{ms:List (List Nat)}(I:Inv X pins σ H s)(h:H D=some (kW X.w D ms)):SS.Is X.w s.heap D (ms.map tx):=by
 obtain⟨x,_⟩:=(show cJ X.prog X.w H s.heap D (kW X.w D ms) from I.hok D _ h);exact x
theorem nF (hc:X.calm=true):dX X (.type "set") (fun xs H Q=>∃ (p:Addr) (ls:List (List Nat)),xs=[.ref p]∧SqL X.K H p (ls.map T)∧ls.length+1<4096∧∀ D,H D=none->Q (.ref D) (upd H D (kW X.w D (uniq ls)))):=by
 intro pins s σ H xs us Q I r h;obtain⟨p,ls,rfl,hq,hz,q⟩:=h;obtain⟨u,rfl,ru⟩:=fE r;cases ru;obtain⟨its,rv,pl,_⟩:=I.list hq;have hlen:=rv.length;rw[aR] at hlen;refine SE.Hc (I.ok.hd hc) pl.isList (ls:=ls) (fun i v e=>Hd rv (by simpa using e)) (by rw[ao];unfold scanBound;omega) (by rw[ao];omega) fun h' tk x k=>?_
 obtain⟨ms,i1,i2,_⟩:=x;have x:SS.Is X.w h' s.heap.objs.size ((uniq ls).map tx):=by
  refine Lq i1 ((jd (xY i1) (Fw (lK ls))).mpr fun y=>?_);rw[i2,pV,pV,fJ,ao,<- hlen,bv]
 have hf:H s.heap.objs.size=none:=I.hok.fresh (af _);refine⟨.ref s.heap.objs.size,_,I.laid (t':=tk) k (af _) (o:=kW X.w s.heap.objs.size (uniq ls)) ⟨x,x.there,fun h1 h2 x1 kk=>x1.at kk⟩,rfl,q _ hf⟩
theorem Pa:OpR X (binaryOp .BitOr) (fun x y H Q=>∃ (a b:Addr) (ls ms:List (List Nat)),x = .ref a∧y = .ref b∧a≠b∧H a=some (kW X.w a ls)∧H b=some (kW X.w b ms)∧ls≠[]∧ls.length+ms.length<=128 ∧
  ∀ (D:Addr) (qs:List (List Nat)),H D=none->qs.Nodup->qs.length<=ls.length+ms.length->(∀ z,z∈qs↔z∈ls∨z∈ms)->Q (.ref D) (upd H D (kW X.w D qs))):=by
 intro pins s σ H x y v u Q I rx ry h;obtain⟨a,b,ls,ms,rfl,rfl,hab,h1,h2,hne,hsz,q⟩:=h;cases rx;cases ry;refine SS.Rr hab (uO I h1) (uO I h2) (fun z=>hne (pc.mp z)) (by rw[aR,aR];exact hsz) fun h' ms' kp i hm hl=>?_
 have em:(ms'.map fun x=>x.cps.toList).map tx=ms':=by
  rw[bf]
  conv=>rhs;rw[<- g9 ms']
  exact bb fun x _=>iN x
 have hnd:(ms'.map fun x=>x.cps.toList).Nodup:=fk.mpr ((xY i).imp fun {a b} hne e=>hne ((iN a).symm.trans ((congrArg tx e).trans (iN b))));have x:SS.Is X.w h' s.heap.objs.size ((ms'.map fun x=>x.cps.toList).map tx):=by rw[em];exact i
 refine⟨.ref s.heap.objs.size,_,I.laid (t':=s.toks) kp (af _) (o:=kW X.w s.heap.objs.size (ms'.map fun x=>x.cps.toList)) ⟨x,x.there,fun h1 h2 x1 kk=>x1.at kk⟩,rfl,q _ _ (I.hok.fresh (af _)) hnd (by rw[aR];rw[aR,aR] at hl;exact hl) fun z=>?_⟩;have e:=hm (tx z);rw[pV,pV,cZ] at e;rw[<- e,<- em,pV,cZ,em]
end
structure jS (J:It)(H:Hp)(vs:List V):Prop where
 go:∀ i H',aM H H'->i<vs.length->J.go i H'
 yl:∀ i H' y H2,aM H H'->J.yld i H' y H2->H2=H'∧vs[i]?=some y
 st:∀ H',aM H H'->J.stop vs.length H'
theorem cF {K:ac}{a:Addr}{H:Hp}{vs:List V}(h:SqL K H a vs):jS (Itl K a) H vs :=
 ⟨fun i H' s hi=>⟨vs,vs[i],s.seq h,aa hi⟩,fun i H' y H2 s ⟨e1,e2⟩=>⟨e1,e2 vs (s.seq h)⟩,fun H' s=>⟨vs,s.seq h,af _⟩⟩
theorem xK {K:ac}{H H':Hp}{p:Addr}{xs:List V}(s:aM H H')(h:SqT K H p xs):SqT K H' p xs:=by
 rcases h with (h | ⟨q,h⟩) | h
 ·exact .inl (.inl (s _ _ h))
 ·exact .inl (.inr ⟨q,s _ _ h⟩)
 ·exact .inr h
theorem iA {K:ac}{a:Addr}{H:Hp}{vs:List V}(h:SqT K H a vs):jS (Itt K a) H vs :=
 ⟨fun i H' s hi=>⟨vs,vs[i],xK s h,aa hi⟩,fun i H' y H2 s ⟨e1,e2⟩=>⟨e1,e2 vs (xK s h)⟩,fun H' s=>⟨vs,xK s h,af _⟩⟩
theorem qH {l:List Nat}{H:Hp}:jS (Itx l) H ((l.map fun c=>[c]).map T) :=
 ⟨fun i H' _ hi=>by (show i<l.length;simpa using hi),fun i H' y H2 _ ⟨e1,c,hc,e2⟩=>⟨e1,by rw[aj,aj,hc,e2];rfl⟩,fun H' _=>by show l.length<=_;simp⟩
theorem jC {J:It}{vs:List V}{te:TE}{σ:St}{H:Hp}{Q:VK}(f:V->V)(rd:jS J H vs)(hn:vs.length<=sizeLine)
  (he:∀ x H',x∈vs->aM H H'->∀ N:V->Hp->Prop,(∀ H'',aM H' H''->N (f x) H'')->te (some x::σ) H' N)
  (hq:∀ D H',H D=none->aM H H'->H' D=some (.lst (vs.map f))->Q (.ref D) H'):iZ te σ Q J H:=by
 intro D hD;refine⟨fun i m ys H2=>m=vs.length-i∧i<=vs.length∧ys=(vs.take i).map f∧aM H H2∧H2 D=some (.lst ys),⟨vs.length,rfl,bi _,rfl,fun b o e=>?_,aB⟩,?_⟩
 ·rw[aH (aK e hD)]
  exact e
 ·rintro i m ys H2 ⟨rfl,hi,rfl,hs,hd⟩
  by_cases hlt:i<vs.length
  ·have hx:vs[i]?=some vs[i]:=aa hlt
   refine .inr ⟨rd.go i H2 hs hlt,by rw[aR,a8];omega,fun v H'=>v=f vs[i]∧aM H2 H',fun v H' ⟨ev,hs'⟩=>⟨hs' D _ hd,vs.length-(i+1),by omega,rfl,hlt,?app,fun b o e=>?kp,aB⟩,fun y H' hy=>?stp⟩
   case app =>
    rw[ev,br,hx,ax];rfl
   case kp =>
    rw[aH (aK e hD)];exact hs' b o (hs b o e)
   case stp =>
    obtain⟨rfl,e2⟩:=rd.yl i H2 y H' hs hy;have e4:y=vs[i]:=by rw[hx] at e2;exact (a5 e2).symm
    subst e4;exact he _ _ (b6 hlt) hs _ fun H'' h''=>⟨rfl,h''⟩
  ·have e:i=vs.length:=by omega
   subst e;rw[bv] at hd;exact .inl ⟨rd.st H2 hs,hq D H2 hD hs hd⟩
theorem wD {J:It}{vs:List V}{tc:TT}{te:TE}{σ:St}{H:Hp}{Q:VK}(p:V->Bool)(f:V->V)(rd:jS J H vs)(hn:vs.length<=sizeLine)
  (ht:∀ x H',x∈vs->aM H H'->∀ N:Bool->Hp->Prop,(∀ H'',aM H' H''->N (p x) H'')->tc (some x::σ) H' N)
  (he:∀ x H',x∈vs->p x=true->aM H H'->∀ N:V->Hp->Prop,(∀ H'',aM H' H''->N (f x) H'')->te (some x::σ) H' N)
  (hq:∀ D H',H D=none->aM H H'->H' D=some (.lst ((vs.filter p).map f))->Q (.ref D) H'):eJ tc te σ Q J H:=by
 intro D hD;refine⟨fun i m ys H2=>m=vs.length-i∧i<=vs.length∧ys=((vs.take i).filter p).map f∧aM H H2∧H2 D=some (.lst ys),⟨vs.length,rfl,bi _,rfl,fun b o e=>?_,aB⟩,?_⟩
 ·rw[aH (aK e hD)]
  exact e
 ·rintro i m ys H2 ⟨rfl,hi,rfl,hs,hd⟩
  by_cases hlt:i<vs.length
  ·have hx:vs[i]?=some vs[i]:=aa hlt
   refine .inr ⟨rd.go i H2 hs hlt,by have:=jD p vs i;rw[aR];omega,fun v H'=>v=f vs[i]∧p vs[i]=true∧aM H2 H',fun v H' ⟨ev,hp,hs'⟩=>⟨hs' D _ hd,vs.length-(i+1),by omega,rfl,hlt,?app,fun b o e=>?kp,aB⟩,
    fun H'=>p vs[i]=false∧aM H2 H',fun H' ⟨hp,hs'⟩=>⟨vs.length-(i+1),by omega,rfl,hlt,?skp,fun b o e=>hs' b o (hs b o e),hs' D _ hd⟩,fun y H' hy=>?stp⟩
   case app =>
    rw[ev,gN p vs i _ hx,hp,ax];rfl
   case kp =>
    rw[aH (aK e hD)];exact hs' b o (hs b o e)
   case skp =>
    rw[gN p vs i _ hx,hp];simp
   case stp =>
    obtain⟨rfl,e2⟩:=rd.yl i H2 y H' hs hy;have e4:y=vs[i]:=by rw[hx] at e2;exact (a5 e2).symm
    subst e4;refine ht _ _ (b6 hlt) hs _ fun H'' h''=>?_
    by_cases hp:p vs[i]=true
    ·rw[if_pos hp]
     exact he _ _ (b6 hlt) hp (hs.trans h'') _ fun H3 h3=>⟨rfl,hp,h''.trans h3⟩
    ·rw[if_neg hp]
     exact⟨by simpa using hp,h''⟩
  ·have e:i=vs.length:=by omega
   subst e;rw[bv] at hd;exact .inl ⟨rd.st H2 hs,hq D H2 hD hs hd⟩
def unT:V->List Nat
 | .str x=>x.cps.toList
 | _=>[]
theorem dP (l:List Nat):unT (T l)=l:=cZ l
section
variable {X:Cx}
theorem Af (K:ac)(h:X.K=K):OpR X (compareOp .In) (rIn K false):=by subst h;exact Em
theorem rZ (K:ac)(h:X.K=K):OpR X (compareOp .NotIn) (rIn K true):=by subst h;exact iX
end
theorem fU {f:List Nat->V}(ls:List (List Nat)):(ls.map T).map (fun x=>f (unT x))=ls.map f:=by
 rw[bf];exact bb fun l _=>by show f (unT (T l))=f l;rw[dP]
theorem gE {p:List Nat->Bool}:∀ ls:List (List Nat),(ls.map T).filter (fun x=>p (unT x))=(ls.filter p).map T
 | []=>rfl
 | l::ls=>by
  rw[a0,du,du,dP,gE ls];split <;> rfl
end L2
namespace SS
open PySem PyProof.Rows L2
section
variable {prog:Program}{w:World}{A:Around}{E:Value->Shared->Prop}{s:Shared}
theorem Jt {a:Addr}{Q:Bool->Shared->Prop}(hS:s.TypeIs (.ref a) "dict")(h:Q false s):wpAny (model prog w) A (Builtin.List.listLengthHint (.ref a)) Q E s:=by
 unfold Builtin.List.listLengthHint;refine wpAny_bind (wpAny_specialOf hS F.slot_dict_len.lookup ?_);generalize hid:("dict.__len__" : String)=id0
 wp_delta
 rw[show splitId id0=some ("dict", "__len__") from by subst hid;decide +kernel]
 subst hid;refine wpAny_bind (wpAny_isInstance (T := "dict") (b:=true) hS F.sub_dict_dict ?_)
 refine wpAny_ite_split (fun hab=>absurd hab (by decide)) (fun _=>?_);refine wpAny_ite_split (fun _=>?_) (fun hab=>absurd (by decide +kernel) hab);refine wpAny_bind (wpAny_typeOf hS ?_);exact wpAny_pure h
def sH (vs:List (Key×Value))(i:Nat)(v:Value):Prop:=∃ k x,vs[i]?=some (k,x)∧rH k v=true
theorem qG {h:Heap}{a:Addr}{vs:List (Key×Value)}{ep:Nat}{ob:Obj}(hD:Heap.DictAt (bJ prog w) h a vs ep):Heap.DictAt (bJ prog w) (h.push ob) a vs ep:=by
 obtain⟨o,es,g,r⟩:=hD;exact⟨o,es,Heap.get?_push_of_some _ g,r⟩
theorem Hu {a:Addr}{vs:List (Key×Value)}{ep:Nat}(hD:Heap.DictAt (bJ prog w) s.heap a vs ep):s.TypeIs (.ref a) "dict" := by
 obtain⟨o,es,g,r⟩:=hD;exact (show Heap.DictOf (bJ prog w) s.heap a vs from ⟨o,es,ep,g,r⟩).typeIs
theorem rE {a:Addr}{vs:List (Key×Value)}{ep:Nat}{R:Result->Shared->Prop}(hh:A.handled=none)(hd:(a==sysModules)=false)(hD:Heap.DictAt (bJ prog w) s.heap a vs ep)(hz:vs.length<=sizeLine)(S:Addr)(res:Value)(h1:S≠a)(hSl:s.heap.get? S=some { cls:=.type "list",data:=.seq #[] })
  (hR:∀ s' acc' c',(∀ b o,b≠S->s.heap.get? b=some o->s'.heap.get? b=some o)->s'.gens=s.gens->s'.os=s.os->s'.heap.get? S=some { cls:=.type "list",dict:=none,data:=.seq acc' c',slots:=#[] }->ItemsOf (sH vs) acc' vs.length->R (.ok (.ret res)) s') :
  wpAny (model prog w) A.in1 (Builtin.List.listExtendWith (.ref S) (.ref a) res)
   (fun fin s'=>match fin with | .done f=>R (.ok f) s' | .again c'=>c'.quiet=true∧codeAny (model prog w) A c' R s') (fun e s'=>R (.error e) s') s:=by
 unfold Builtin.List.listExtendWith;refine wpAny_bind (wpAny_typeOf (Hu hD) ?_);have g1:Builtin.List.listSameRef (.ref S) (.ref a)=false:=by simp[Builtin.List.listSameRef,h1]
 have g2:(Value.type "dict" == Value.type "list")=false:=by decide
 have g3:(Value.type "dict" == Value.type "tuple")=false:=by decide
 simp only [g1,g2,g3,gs,cm,if_false];refine wpAny_bind (wpAny_pyIter_dict hd hD ?_);have hlt:=Heap.lt_size hSl;have hal:a<s.heap.objs.size:=by obtain⟨o,es,g,r⟩:=hD;exact Heap.lt_size g
 generalize hio:({ cls:=Value.type "dict_keyiterator",data:=Data.fields #[Value.ref a,Value.int 0 0,Value.int (↑vs.length) 0,Value.int (↑ep) 0] }:Obj)=io
 have hIs:s.heap.objs.size<=s.heap.objs.size:=af _;have hSI:S≠s.heap.objs.size:=ay hlt;have haI:a≠s.heap.objs.size:=ay hal;have kp:∀ b o,s.heap.get? b=some o->(s.heap.push io).get? b=some o:=fun b o e=>Heap.get?_push_of_some _ e
 have W:=Walks.dictKeys (prog:=prog) (w:=w) (knd:=bJ prog w) (A:=A.in1) hh s.heap.objs.size a haI vs ep;have hD2:Heap.DictAt (bJ prog w) (s.heap.push io) a vs ep:=qG hD;have st0:(s.heap.push io).IsKeyIter s.heap.objs.size a 0 vs.length ep∧Heap.DictAt (bJ prog w) (s.heap.push io) a vs ep:=by
  refine⟨⟨io,Heap.get?_push_size _ (by rw[<- hio];rfl),?_,?_⟩,hD2⟩
  ·rw[<- hio]
  ·rw[<- hio];rfl
 have hSf:S∉[s.heap.objs.size,a]:=by simp[hSI,h1]
 refine wpAny_bind (wpAny_holding (Jt (s:={ s with heap:=s.heap.push io }) (Hu (s:={ s with heap:=s.heap.push io }) hD2) ?_));have WS:=W.toS;have last:∀ (h0:Heap) (c0:Nat),(∀ b o,b≠S->(s.heap.push io).get? b=some o->h0.get? b=some o)->h0.get? S=some { cls:=.type "list",data:=.seq #[] c0 } ->
   wpAny (model prog w) A.in1 (again (.builtin "list.extend.loop" ⟨[.ref S,.ref s.heap.objs.size,res],[]⟩))
    (fun fin s'=>match fin with | .done f=>R (.ok f) s' | .again c'=>c'.quiet=true∧codeAny (model prog w) A c' R s') (fun e s'=>R (.error e) s') { s with heap:=h0 }:=fun h0 c0 hk0 hS0=>by
  refine wpAny_pure ⟨plainId_quiet F.plain_extend_loop _,codeAny_extend_loopS WS (by omega) S hSf res vs.length 0 _ #[] c0 rfl (bi _) ?_ hS0 (ItemsOf.nil _) fun s' acc' c' hm hS' hacc=>?_⟩
  ·exact W.frame 0 (s.heap.push io) h0 st0 fun b hb o e=>hk0 b o (fun z=>hSf (z▸hb)) e
  ·refine hR s' acc' c' (fun b o hb e=>?_) hm.gens hm.os hS' hacc
   by_cases hbI:b=s.heap.objs.size
   ·subst hbI
    exact absurd (Heap.lt_size e) (kr.mpr hIs)
   ·exact hm.heap b o (by simp[hb,hbI]) (hk0 b o hb (kp b o e))
 refine wpAny_ite_split (fun _=>?_) (fun hab=>absurd (by decide +kernel) hab);refine wpAny_bind (wpAny_rule ?_);have hSl2:(s.heap.push io).get? S=some { cls:=.type "list",data:=.seq #[] }:=kp S _ hSl
 refine wpAny_bind (m:=((do updateSeq S (fun z=>z.push .none);updateSeq S (fun z=>z.pop)):Sem Unit)) (wpAny_bind (wpAny_updateSeq (s:={ s with heap:=s.heap.push io }) hSl2 rfl ?_));have k1:=Heap.get?_update_self (Obj.mapSeq (fun z=>z.push .none)) hSl2 rfl;refine wpAny_updateSeq k1 rfl ?_;have k2:=Heap.get?_update_self (Obj.mapSeq (fun z=>z.pop)) k1 rfl;exact last _ _ (fun b o hb e=>(Heap.get?_update_other _ _ (Ne.symm hb)).trans ((Heap.get?_update_other _ _ (Ne.symm hb)).trans e)) k2
theorem wU {a:Addr}{vs:List (Key×Value)}{ep:Nat}{Q:List Value->Shared->Prop}(hh:A.handled=none)(hd:(a==sysModules)=false)(hD:Heap.DictAt (bJ prog w) s.heap a vs ep)(hz:vs.length<=sizeLine)
  (hQ:∀ (s':Shared) (acc:Array Value),(∀ b o,s.heap.get? b=some o->s'.heap.get? b=some o)->s'.gens=s.gens->s'.os=s.os->ItemsOf (sH vs) acc vs.length->Q acc.toList s'):wpAny (model prog w) A (collect (.ref a)) Q E s:=by
 have hlt:a<s.heap.objs.size:=by obtain⟨o,es,g,r⟩:=hD;exact Heap.lt_size g
 unfold collect;refine wpAny_bind (wpAny_runValue (codeAny_builtin F.entry_proto_collect ?_));rw[Around.under_plainId F.plain_proto_collect];refine wpAny_bind (m:=newList []) (wpAny_newObj_type (wpAny_pure ⟨plainId_quiet F.plain_list_iadd _,codeAny_builtin F.entry_list_iadd ?_⟩));rw[Around.under_plainId F.plain_list_iadd];have hSl:(s.heap.push { cls:=.type "list",data:=.seq #[] }).get? s.heap.objs.size=some { cls:=.type "list",data:=.seq #[] }:=Heap.get?_push_size _ rfl
 have go:∀ R:Result->Shared->Prop,(∀ s' acc' c',(∀ b o,s.heap.get? b=some o->s'.heap.get? b=some o)->s'.gens=s.gens->s'.os=s.os->s'.heap.get? s.heap.objs.size=some { cls:=.type "list",dict:=none,data:=.seq acc' c',slots:=#[] }->ItemsOf (sH vs) acc' vs.length->R (.ok (.ret (.ref s.heap.objs.size))) s') ->
   wpAny (model prog w) A.in1 (Builtin.List.listExtendWith (.ref s.heap.objs.size) (.ref a) (.ref s.heap.objs.size))
    (fun fin s'=>match fin with | .done f=>R (.ok f) s' | .again c'=>c'.quiet=true∧codeAny (model prog w) A c' R s') (fun e s'=>R (.error e) s') { s with heap:=s.heap.push { cls:=.type "list",data:=.seq #[] } }:=fun R hR =>
  rE (A:=A) (s:={ s with heap:=s.heap.push { cls:=.type "list",data:=.seq #[] } }) hh hd (qG hD) hz s.heap.objs.size (.ref s.heap.objs.size) (fu hlt) hSl
   fun s' acc' c' kp g1 g2 e1 e2=>hR s' acc' c' (fun b o e=>kp b o (ay (Heap.lt_size e)) (Heap.get?_push_of_some _ e)) g1 g2 e1 e2
 refine go (fun r s'=>match r with
  | .ok (.ret v)=>wpAny (model prog w) A (match v with
   | .ref a=>do
    match (<- load a).data with
    | .seq xs _=>pure xs.toList
    | _=>unsupported "internal:collect"
   | _=>unsupported "internal:collect") Q E s'
  | .ok _=>False
  | .error e=>E e s') fun s' acc' c' kp g1 g2 hS' e2=>?_
 refine wpAny_bind (m:=load s.heap.objs.size) (wpAny_load hS' (wpAny_pure ?_));exact hQ s' acc' kp g1 g2 e2
end
end SS
namespace L2
open PySem PyProof.Rows
def tKs (ls:List (List Nat))(v:V):List (Key×V):=ls.map fun t=>(bx (tx t),v)
section
variable {X:Cx}
theorem Be:∀ (ls:List Str) (us:List Value),us.length=ls.length->(∀ (i:Nat) (v:Value),us[i]?=some v->∃ x t,ls[i]?=some x∧v=Value.str x t)->StrsAre us ls
 | [],[],_,_=>.nil
 | [],_::_,h,_=>nomatch h
 | _::_,[],h,_=>nomatch h
 | y::ls,u::us,h,hp=>by
  obtain⟨x,t,e1,e2⟩:=hp 0 u rfl;have e3:y=x:=by simpa using e1
  rw[e2,<- e3];exact .cons _ _ (Be ls us (by simpa using h) fun i v e=>by simpa using hp (i+1) v (by simpa using e))
theorem Fs:∀ {kvs:List (Key×V)} {vs:List (Key×Value)},KV kvs vs->vs.map (·.1)=kvs.map (·.1)
 | [],[],.nil=>rfl
 | _::_,_::_,.cons h r=>by rw[a0,a0,h.1,Fs r]
theorem tD {ls:List (List Nat)}{kvs:List (Key×V)}{vs:List (Key×Value)}{acc:Array Value}(hk:kvs.map (·.1)=ls.map fun t=>bx (tx t))(r:KV kvs vs)(h:ItemsOf (SS.sH vs) acc vs.length):StrsAre acc.toList (ls.map tx):=by
 have e0:vs.map (·.1)=(ls.map tx).map bx:=by rw[Fs r,hk,bf];rfl
 have el:vs.length=ls.length:=by have:=congrArg ge e0;simpa using this
 refine Be _ _ (by rw[bh,h.1,el,aR]) fun i v e=>?_
 obtain⟨k,x,g1,g2⟩:=h.2 i v (by rw[<- et];exact e);have g3:(vs.map (·.1))[i]?=some k:=by rw[aj,g1];rfl
 rw[e0,aj] at g3
 cases g4:(ls.map tx)[i]? with
 | none=>rw[g4] at g3;cases g3
 | some y =>
  rw[g4] at g3;obtain rfl:bx y=k:=a5 g3;rcases cS g2 with ⟨j,t,q1,_⟩ | ⟨z,t,q1,q2⟩
  ·cases q1
  ·cases q1
   exact⟨y,t,rfl,q2⟩
end
open PySem.Spec
namespace SE
section
variable {prog:Program}{w:World}{A:Around}{E:Value->Shared->Prop}{s:Shared}
end
end SE
section
variable {X:Cx}
end
section
variable {X:Cx}{pins:List (Addr×Obj)}{σ:List (Option V)}{H H':Hp}{s:Shared}{h':Heap}
theorem Inv.turnedL {t':Nat}{ch:List Addr}(I:Inv X pins σ H s)(k:∀ b o,b∉ch->s.heap.get? b=some o->h'.get? b=some o)(hf:∀ b∈ch,kI X pins H b):Inv X pins σ H { s with heap:=h',toks:=t' }:=by
 have nit:∀ b u,H b=some u->b∉ch:=fun b u e z=>by rw[(hf b z).1] at e;cases e
 refine I.step (g':=s.gens) (d':=s.drawn) (ch:=ch) (fun b hb=>?_) (fun b o _ _ hc e _=>k b o hc e) (fun b o _ _ hc e _=>⟨o.slots,k b o hc e⟩) (fun _ _ _ _ n=>n)
  (fun b o hc e=>⟨o,k b o hc e⟩) (fun _ _ e=>e) (fun _ _ _ e=>e) (fun b ps e=>⟨#[],by rw[e];simp⟩) (fun m hm=>?_) (fun b u e=>?_) I.bare
 ·obtain⟨f0,f1,f2,f3,f4,f5⟩:=hf b hb
  exact⟨f3,f1,f4,f5⟩
 ·obtain⟨o,es,ep,ho,r⟩:=hm
  exact⟨o,es,ep,k _ o (fun z=>(hf _ z).2.1 rfl) ho,r⟩
 ·refine (I.hok b u e).stay (fun c v hc q=>k c v ?_ q) (fun _ q=>q) fun _ _ q=>q
  rcases hc with z | z
  ·rw[z];exact nit b u e
  ·exact nit c _ z
end
def Itz (K:ac)(a b:Addr):It :=
 ⟨fun i H=>∃ xs ys x y,SqL K H a xs∧SqL K H b ys∧xs[i]?=some x∧ys[i]?=some y,
  fun i H x H'=>∃ (T:Addr) (u v:V),x = .ref T∧H T=none∧H'=upd H T (.tup [u,v])∧(∀ xs,SqL K H a xs->xs[i]?=some u)∧∀ ys,SqL K H b ys->ys[i]?=some v,
  fun i H=>∃ xs ys,SqL K H a xs∧SqL K H b ys∧(xs.length<=i∨ys.length<=i)⟩
theorem Jn {P:Program}{w:World}{K:ac}{elts:List Expr}{x1}{pos:Pos}{a b z TI TO i1 i2:Addr}(D:ZipApart z TI TO i1 i2 a b) :
  pQ P w K (.Tuple elts x1 pos) (Itz K a b) [z,TI,TO,i1,i2] z (fun i h=>IsZip h z TI TO .none∧IsPair h TI (.ref i1) (.ref i2)∧(∃ u v,IsPair h TO u v)∧h.IsListIter i1 a i∧h.IsListIter i2 b i) where
 mem:=by simp
 obj:=fun i h st c hc=>by
  obtain⟨h1,h2,⟨u,v,h3⟩,⟨o4,e4,c4,d4⟩,⟨o5,e5,c5,d5⟩⟩:=st;simp only [au,eh,or_false] at hc;rcases hc with rfl | rfl | rfl | rfl | rfl
  ·exact⟨_,h1,fun v z=>by cases z⟩
  ·exact⟨_,h2,fun v z=>by cases z⟩
  ·exact⟨_,h3,fun v z=>by cases z⟩
  ·exact⟨_,e4,fun v z=>by rw[d4] at z;cases z⟩
  ·exact⟨_,e5,fun v z=>by rw[d5] at z;cases z⟩
 keep:=fun i h h' st k=>by
  obtain⟨h1,h2,⟨u,v,h3⟩,h4,h5⟩:=st;exact⟨k z (by simp) _ h1,k TI (by simp) _ h2,⟨u,v,k TO (by simp) _ h3⟩,h4.at fun o e=>k i1 (by simp) o e,h5.at fun o e=>k i2 (by simp) o e⟩
 item:=by
  intro X hP hw hK hc i pins s σ H E I hf st hg;subst hP hw hK;obtain⟨xs,ys,x,y,hq1,hq2,hx,hy⟩:=hg;obtain⟨its,rv,p,hz⟩:=I.list hq1;obtain⟨its2,rv2,p2,hz2⟩:=I.list hq2;obtain⟨u,hu,ru⟩:=rv.get hx;obtain⟨v,hv,rv'⟩:=rv2.get hy;obtain⟨h1,h2,⟨c1,c2,h3⟩,h4,h5⟩:=st;refine wpAny_pyNext_zip_item D h1 h2 h3 h4 h5 p.isList p2.isList (x:=u) (y:=v) (by simpa using hu) (by simpa using hv) fun h' z1 z2 z3 z4 z5 z6 z7=>?_
  refine⟨_,rfl,wpAny_letOwnedTupleGo_zip (s:={ s with heap:=h' }) z1 fun h'' y1 y2=>?_⟩;have hT:H s.heap.objs.size=none:=I.hok.fresh (af _);have I1:Inv X pins σ (upd H s.heap.objs.size (.tup [x,y])) { s with heap:=s.heap.push { cls:=.type "tuple",data:=.seq #[u,v] },toks:=s.toks } :=
   I.laid (t':=s.toks) (fun b u e=>Heap.get?_push_of_some _ e) (af _) ⟨(by show 2<=sizeLine;rw[sizeLine_eq];decide),[u,v],.cons ru (.cons rv' .nil),⟨_,Heap.get?_push_size _ rfl,rfl,_,rfl⟩⟩
  have nf:∀ c∈[z,TI,TO,i1,i2],c≠s.heap.objs.size:=fun c hc e=>by
   have lt:∃ o,s.heap.get? c=some o:=by
    obtain⟨o4,e4,_⟩:=id h4;obtain⟨o5,e5,_⟩:=id h5;simp only [au,eh,or_false] at hc;rcases hc with rfl | rfl | rfl | rfl | rfl
    ·exact⟨_,h1⟩
    ·exact⟨_,h2⟩
    ·exact⟨_,h3⟩
    ·exact⟨_,e4⟩
    ·exact⟨_,e5⟩
   obtain⟨o,ho⟩:=lt
   have:=Heap.lt_size ho
   rw[e] at this;exact dz _ this
  have hf1:∀ c∈[z,TI,TO,i1,i2],kI X pins (upd H s.heap.objs.size (.tup [x,y])) c:=fun c hc=>by
   obtain⟨f0,f⟩:=hf c hc;exact⟨by rw[aH (nf c hc)];exact f0,f⟩
  have I2:Inv X pins σ (upd H s.heap.objs.size (.tup [x,y])) { s with heap:=h'',toks:=s.toks } :=
   Inv.turnedL (s:={ s with heap:=s.heap.push { cls:=.type "tuple",data:=.seq #[u,v] },toks:=s.toks }) (t':=s.toks) (ch:=[z,TI,TO,i1,i2]) I1 (fun b o hb e=>by
    simp only [au,eh,or_false,not_or] at hb;obtain⟨b1,b2,b3,b4,b5⟩:=hb;refine (y2.2 b b1).trans ?_;rcases Heap.get?_push_cases e with ⟨rfl,rfl⟩ | e
    ·exact z5
    ·exact z7 b o b1 b3 b4 b5 e) hf1
  refine⟨.ref s.heap.objs.size,_,I2,rfl,⟨s.heap.objs.size,x,y,rfl,hT,rfl,fun zs hzs=>by rw[I.list_inj hzs hq1];exact hx,fun zs hzs=>by rw[I.list_inj hzs hq2];exact hy⟩,⟨y1,?_,⟨u,v,?_⟩,?_,?_⟩,fun c hc=>(hf1 c hc).1⟩
  ·exact (y2.2 TI D.TIz).trans (z7 TI _ D.TIz D.TITO D.TIi1 D.TIi2 h2)
  ·exact (y2.2 TO D.TOz).trans z2
  ·exact z3.at fun o e=>(y2.2 i1 D.i1z).trans e
  ·exact z4.at fun o e=>(y2.2 i2 D.i2z).trans e
 done:=by
  intro X hP hw hK hc i pins s σ H E I hf st hg;subst hP hw hK;obtain⟨xs,ys,hq1,hq2,hl⟩:=hg;obtain⟨its,rv,p,hz⟩:=I.list hq1;obtain⟨its2,rv2,p2,hz2⟩:=I.list hq2;obtain⟨h1,h2,⟨c1,c2,h3⟩,h4,h5⟩:=st;have l1:=rv.length;have l2:=rv2.length;refine wpAny_pyNext_zip_end (I.ok.hd hc) D h1 h2 h3 h4 h5 p.isList p2.isList ?_ fun h' kk=>⟨rfl,?_⟩
  ·rcases hl with g | g
   ·exact .inl (by simp;omega)
   ·exact .inr (by simp;omega)
  ·exact I.turnedL (t':=s.toks) (ch:=[z,TI,TO,i1,i2]) (fun b o hb e=>by
    simp only [au,eh,or_false,not_or] at hb;obtain⟨b1,b2,b3,b4,b5⟩:=hb;exact kk b o b1 b3 b4 b5 e) hf
 self:=fun _ _ _ _ _ st h=>wpAny_pyIter_zip st.1 h
section
variable {X:Cx}
def Tl (K:ac)(ta:TA):TI:=fun σ H R=>ta σ H fun xs H1=>∃ a b:Addr,xs=[.ref a,.ref b]∧(∃ us,SqL K H1 a us)∧(∃ vs,SqL K H1 b vs)∧R (Itz K a b) H1
theorem Ny {a b:Expr}{ta:TA}{p pos pos':Pos}{elts:List Expr}{x1}(hg:Gl X "zip")(hm:X.mg "zip" = none)(ha:PA X [a,b] ta)(hs:starEach [a,b] X.env=[(false,eval a X.env),(false,eval b X.env)]:=by rfl)(hs2:starEach [b] X.env=[(false,eval b X.env)]:=by rfl) :
  PI X (.Tuple elts x1 pos') (.Call (.Name "zip" p) [a,b] [] pos) (Tl X.K ta):=by
 intro pins s σ H R I h;refine Call_ (jM I hg hm boot_zip (d0 (thn (ha pos pins s σ H _ I h) fun us s1 ⟨vs,H1,I1,r1,q1⟩=>?_) (by rw[hs,hs2]) (by rw[hs2];rfl)));obtain⟨l1,l2,e,⟨us1,hq1⟩,⟨us2,hq2⟩,q⟩:=q1;subst e
 cases r1 with
 | cons r rr =>
  cases rr with
  | cons r' rr =>
   cases rr;cases r;cases r';obtain⟨its,rv,p,hz⟩:=I1.list hq1;obtain⟨its2,rv2,p2,hz2⟩:=I1.list hq2;obtain⟨o1,ho1,_⟩:=id p.isList;obtain⟨o2,ho2,_⟩:=id p2.isList;refine call_zip_2 p.isList p2.isList fun h' z1 z2 z3 z4 z5 z6 z7=>?_
   refine wpAny_pyIter_zip (s:={ s1 with heap:=h' }) z1 ?_;have fr:∀ c,s1.heap.objs.size<=c->kI X pins H1 c:=fun c hc=>I1.fpOk hc (I1.hok.fresh hc)
   refine⟨s1.heap.objs.size+4,[s1.heap.objs.size+4,s1.heap.objs.size+2,s1.heap.objs.size+3,s1.heap.objs.size,s1.heap.objs.size+1],_,_,H1,rfl,I1.kept (t':=s1.toks) z7,Jn (zipApart_new (Heap.lt_size ho1) (Heap.lt_size ho2)),⟨z1,z2,⟨_,_,z3⟩,z4,z5⟩,fun c hc=>fr c ?_,q⟩;simp only [au,eh,or_false] at hc;rcases hc with rfl | rfl | rfl | rfl | rfl
   ·exact ip _ _
   ·exact ip _ _
   ·exact ip _ _
   ·exact af _
   ·exact ip _ _
end
namespace ZS
section
variable {prog:Program}{w:World}{A:Around}{E:Value->Shared->Prop}{s:Shared}
end
end ZS
section
variable {X:Cx}
end
theorem on1 {α:Type}{C:List α->Prop}{us:List α}(h:us.length=1)(k:∀ a,C [a]):C us:=match us,h with | [a],_=>k a
theorem on2 {α:Type}{C:List α->Prop}{us:List α}(h:us.length=2)(k:∀ a b,C [a,b]):C us:=match us,h with | [a,b],_=>k a b
theorem on3 {α:Type}{C:List α->Prop}{us:List α}(h:us.length=3)(k:∀ a b c,C [a,b,c]):C us:=match us,h with | [a,b,c],_=>k a b c
theorem on4 {α:Type}{C:List α->Prop}{us:List α}(h:us.length=4)(k:∀ a b c d,C [a,b,c,d]):C us:=match us,h with | [a,b,c,d],_=>k a b c d
theorem on5 {α:Type}{C:List α->Prop}{us:List α}(h:us.length=5)(k:∀ a b c d e,C [a,b,c,d,e]):C us:=match us,h with | [a,b,c,d,e],_=>k a b c d e
section
variable {X:Cx}
theorem Iw {st:List Stmt}:PSs X st (fun _ _ _=>False):=fun _ _ _ _ _ _ h=>h.elim
end
structure vQ (N N':List Str)(sc scope:Scope)(x y2:Str):Prop where
 kind:scope.kind = .function
 cell:∀ y∈scope.names,y.2≠.cell
 names:∀ y∈scope.names,y.2 = .local->scope.names.lookup y.1=some .local
 var:scope.names.lookup x=some .local
 var2:scope.names.lookup y2=some .local
 ok:∀ y∈scope.names,y.2 = .free->sc.names.lookup y.1=some .cell∨sc.names.lookup y.1=some .free
 hd:N'[0]?=some x
 hd2:N'[1]?=some y2
 len:N'.length=N.length+2
 sub:∀ i,i<N.length->N'[i+2]?=N[i]?∨N'[i+2]?=some ("" : Str)
 noe:scope.names.lookup ("" : Str)=none
 nol:∀ y∈N'.tail.tail,scope.names.lookup y≠some .local
 nd:N'.Nodup
def vW (K:ac)(te:TE)(σ:St)(Q:VK)(J:It)(H1:Hp):Prop:=∀ D,H1 D=none->∃ W:Nat->Nat->List V->Hp->Prop,(∃ m,W 0 m [] (upd H1 D (.lst [])))∧∀ i m ys H2,W i m ys H2 ->
 (J.stop i H2∧Q (.ref D) H2)∨(J.go i H2∧ys.length<sizeLine∧∃ N:V->Hp->Prop,(∀ v H',N v H'->H' D=some (.lst ys)∧∃ m',m'<m∧W (i+1) m' (ys++[v]) (upd H' D (.lst (ys++[v])))) ∧
  ∀ y H',J.yld i H2 y H'->∃ (a:Addr) (u v:V),y = .ref a∧SqT K H' a [u,v]∧te (some u::some v::σ) H' N)
def Oj (K:ac)(wi:TI)(te:TE):TE:=fun σ H Q=>wi σ H (vW K te σ Q)
section
variable {X:Cx}{N':List Str}{scope:Scope}{x y2:Str}{px py py2 pt:Pos}{elt iter:Expr}{pos:Pos}{te:TE}{wi:TI}
theorem yP (S:vQ X.N N' X.env.scope scope x y2)(hc:X.calm=true)(he:∀ cl C s H fp,PE (bV X N' scope cl C s H fp) elt te)
  {pins:List (Addr×Obj)} {σ:St} {H:Hp} {s:Shared} {Q:VK} {E:Value->Shared->Prop} {RR:Value->Addr->Result->Shared->Prop} {it:Addr} {fp:List Addr} {tn:Nat->Heap->Prop} {J:It}
  (I:Inv X pins σ H s) (T:pQ X.prog X.w X.K (.Tuple [.Name x px,.Name y2 py] 0 pt) J fp it tn) (st:tn 0 s.heap) (f2:∀ b∈fp,kI X pins H b)
  (hw:vW X.K te σ Q J H)
  (hRR:∀ D C s' H',Inv X pins σ H' s'->(∃ m,s'.heap.Ns C m)->C≠X.env.locals->(∀ y c,X.env.cells.lookup y=some c->c≠C)->H' C=none->X.s₀.heap.objs.size<=C->(∀ p∈X.pn++pins,p.1≠C)->Q (.ref D) H'->RR (.ref D) C (.ok .next) s') :
  ∃ cl,closureFor scope X.env=pure cl∧wpAny (model X.prog X.w) X.A (newList []) (fun acc s₃=>wpAny (model X.prog X.w) X.A (newFunctionEnv scope X.env.globals cl [] X.env.qual none .none (some X.env)) (fun cenv s₄ =>
   codeAny (model X.prog X.w) X.A (.compStart (.ListComp elt [⟨.Tuple [.Name x px,.Name y2 py] 0 pt,iter,[],0⟩] scope pos) 0 (.ref it) acc { cenv with scope:=relabel scope X.env }) (RR acc cenv.locals) s₄) E s₃) E s:=by
 have hfree:∀ z∈scope.names,z.2 = .free->∃ c,X.env.cells.lookup z.1=some c:=fun z hz hk=>by
  rcases S.ok z hz hk with q | q
  ·exact I.ok.has z.1 (.inl q)
  ·exact I.ok.has z.1 (.inr q)
 refine⟨_,fC hfree,?_⟩;have clS:∀ y c,(cR X.env.cells scope.names []).lookup y=some c->X.env.cells.lookup y=some c:=fun y c=>iO scope.names [] hfree fun q=>by cases q
 generalize hcl:cR X.env.cells scope.names []=cl at clS;have clH:∀ y,scope.names.lookup y=some .free->∃ c,cl.lookup y=some c:=fun y hy=>by
  rw[<- hcl];exact mD scope.names [] (cT hy)
 refine wpAny_newObj_type (wpAny_newFunctionEnv S.cell (by intro y hy;simp at hy) (fun h₁ hns₁ hsb₁=>?_) S.kind);have I3:Inv X pins σ (upd H s.heap.objs.size (.lst [])) { s with heap:=s.heap.push { cls:=.type "list",data:=.seq ([]:List Value).toArray } }:=I.lnew (t':=s.toks) .nil (bi _)
 obtain⟨W,⟨m0,w0⟩,turn⟩:=hw s.heap.objs.size I.fresh
 dsimp only at hns₁ hsb₁ ⊢
 generalize hs3:({ s with heap:=s.heap.push { cls:=.type "list",data:=.seq ([]:List Value).toArray } }:Shared)=s3 at I3
 have hh3:s3.heap=s.heap.push { cls:=.type "list",data:=.seq ([]:List Value).toArray }:=by rw[<- hs3]
 have hsz3:s3.heap.objs.size=s.heap.objs.size+1:=by rw[hh3,Heap.size_push]
 rw[<- hh3] at hns₁ hsb₁ ⊢;have old:∀ b o,s3.heap.get? b=some o->h₁.get? b=some o:=fun b o e=>hsb₁.extBut b o (by have:=Heap.lt_size e;exact ay this) (Heap.get?_push_of_some _ e)
 have old0:∀ b o,s.heap.get? b=some o->h₁.get? b=some o:=fun b o e=>old b o (by rw[hh3];exact Heap.get?_push_of_some _ e)
 have CneL:s3.heap.objs.size≠X.env.locals:=fu I3.lt;have CneC:∀ y c,X.env.cells.lookup y=some c->c≠s3.heap.objs.size:=fun y c e z=>by
  obtain⟨v,q⟩:=I3.cell y c e
  have:=q.lt
  rw[z] at this;exact absurd this (dz _)
 have CneP:∀ p∈X.pn++pins,p.1≠s3.heap.objs.size:=fun p hp z=>by
  have:=Heap.lt_size (I3.pin p hp).1
  rw[z] at this;exact absurd this (dz _)
 have CfreeH:∀ b o,s3.heap.get? b=some o->b<s3.heap.objs.size:=fun b o e=>by have:=Heap.lt_size e;exact this
 have fpLt:∀ b∈fp,b<s3.heap.objs.size:=fun b hb=>by
  obtain⟨o,e,_⟩:=T.obj 0 s.heap st b hb;rw[hsz3];exact d6 (Heap.lt_size e)
 have fpD:∀ b∈fp,b≠s.heap.objs.size:=fun b hb=>by
  obtain⟨o,e,_⟩:=T.obj 0 s.heap st b hb;exact ay (Heap.lt_size e)
 have ok':(bV X N' scope cl s3.heap.objs.size s3 (upd H s.heap.objs.size (.lst [])) fp).Ok:=by
  refine⟨I3.ok.mod,?_,I3.ok.glob,I3.ok.blt,af _,fun y z c h1 h2=>I3.ok.inj y z c (clS y c h1) (clS z c h2),fun y hy=>?_,fun y c hf=>(by cases hf),I3.ok.hd,I3.ok.frames,.inl rfl,fun b hb=>⟨ay (fpLt b hb),fun y c e=>(f2 b hb).2.2.2.2.1 y c (clS y c e)⟩,
   fun b o e=>I3.bs b o e,a7 I3.ok.bsz I3.sz,fun b o e hb=>?_,fun b hb z=>?_,I3.stack,I3.stkFree⟩
  ·show (relabel scope X.env).kind = .function
   exact S.kind
  ·have hy':(relabel scope X.env).names.lookup y=some .cell∨(relabel scope X.env).names.lookup y=some .free:=hy
   rw[bE] at hy'
   cases q:scope.names.lookup y with
   | none=>rw[q] at hy';rcases hy' with z | z <;> cases z
   | some k =>
     have hm:=cT q
     cases k with
     | free=>exact clH y q
     | cell=>exact absurd rfl (S.cell _ hm)
     | «local» => rw[q] at hy';rcases hy' with z | z <;> simp at z
     | globalExplicit=>rw[q] at hy';rcases hy' with z | z <;> simp at z
     | globalImplicit=>rw[q] at hy';rcases hy' with z | z <;> simp at z
  ·rcases (f2 b hb).2.2.2.1 with z | z
   · exact I.ok.noex b o e z
   · exact absurd (bj (Heap.lt_size e) (a7 I.ok.bsz z)) (dz _)
  ·rcases au.mp (I3.stkSub b z) with q | q
   · exact (f2 b hb).2.1 q
   · exact (f2 b hb).2.2.1 q
 have fpOk':∀ {H':Hp},(∀ b∈fp,H' b=none)->∀ b∈fp,kI (bV X N' scope cl s3.heap.objs.size s3 (upd H s.heap.objs.size (.lst [])) fp) pins H' b:=fun hn b hb =>
  ⟨hn b hb,ay (fpLt b hb),fun z=>by
   rcases au.mp (I3.stkSub b z) with q | q
   · exact (f2 b hb).2.1 q
   · exact (f2 b hb).2.2.1 q,.inl hb,fun y c e=>(f2 b hb).2.2.2.2.1 y c (clS y c e),(f2 b hb).2.2.2.2.2⟩
 have I4:Inv (bV X N' scope cl s3.heap.objs.size s3 (upd H s.heap.objs.size (.lst [])) fp) pins (none::none::σ) (upd H s.heap.objs.size (.lst [])) { s3 with heap:=h₁,toks:=s3.toks+([]:List (Str×Value)).length }:=by
  refine⟨ok',rfl,I3.bare,Un.kept old,⟨_,hns₁,fun i y v e1 e2 vis=>?_⟩,fun y c e=>?_,?_,fun y c e=>I3.freeC y c (clS y c e),fun p hp=>?_,I3.hok.kept old,?_⟩
  ·cases i with
   | zero=>cases e2
   | succ i =>
    cases i with
    | zero=>cases e2
    | succ i =>
     have e2':σ[i]?=some (some v):=by simpa using e2
     have hi:i<X.N.length:=by rw[<- I3.len];exact (al.mp e2').1
     have vis':(relabel scope X.env).names.lookup y=some .local∨(relabel scope X.env).names.lookup y=some .cell∨(relabel scope X.env).names.lookup y=some .free:=vis;have e1':N'[i+2]?=some y:=e1;rcases S.sub i hi with q | q
     ·rw[e1'] at q
      have hy:X.N[i]?=some y:=q.symm;have hmem:y∈N'.tail.tail:=by
       rw[kc];exact⟨i,by rw[js,js];exact e1'⟩
      have hfr:scope.names.lookup y=some .free:=by
       rw[bE] at vis'
       cases q2:scope.names.lookup y with
       | none=>rw[q2] at vis';rcases vis' with z | z | z <;> cases z
       | some k =>
        cases k with
        | free=>rfl
        | cell=>exact absurd rfl (S.cell _ (cT q2))
        | «local» => exact absurd q2 (S.nol y hmem)
        | globalExplicit=>rw[q2] at vis';rcases vis' with z | z | z <;> simp at z
        | globalImplicit=>rw[q2] at vis';rcases vis' with z | z | z <;> simp at z
      have hok:=S.ok (y,.free) (cT hfr) rfl;obtain⟨m,hn,hl⟩:=I3.loc;have visX:Vis X.env.scope y:=by
       rcases hok with z | z
       ·exact .inr (.inl z)
       ·exact .inr (.inr z)
      obtain⟨u,r,l⟩:=hl i y v hy e2' visX;refine⟨u,r,.inr ⟨?_,?_⟩⟩
      ·show (relabel scope X.env).names.lookup y=some .cell∨(relabel scope X.env).names.lookup y=some .free
       rw[bE,hfr,gk];by_cases hcnd:(NameKind.free==NameKind.free&&X.env.scope.kind == .function&&X.env.kindOf y==some .cell)=true
       ·left
        rw[if_pos hcnd]
       ·right
        rw[if_neg hcnd]
      ·rcases l with ⟨k,_⟩ | ⟨k,c,e,z⟩
       ·have k':X.env.scope.names.lookup y=some .local:=k
        have hok':X.env.scope.names.lookup y=some .cell∨X.env.scope.names.lookup y=some .free:=hok;rw[k'] at hok';rcases hok' with z | z <;> cases z
       ·obtain⟨c',e'⟩:=clH y hfr
        have e3:=clS y c' e';rw[e] at e3;cases e3;obtain⟨o,ho,hd⟩:=z;exact⟨c,e',o,old c o ho,hd⟩
     ·rw[e1'] at q
      cases q;rw[bE,S.noe] at vis';rcases vis' with z | z | z <;> cases z
  ·obtain⟨v,o,ho,hd⟩:=I3.cell y c (clS y c e)
   exact⟨v,o,old c o ho,hd⟩
  ·show upd H s.heap.objs.size (.lst []) s3.heap.objs.size=none
   exact I3.hok.fresh (af _)
  ·obtain⟨e,n,ne,nf,d⟩:=I3.pin p hp
   refine⟨old _ _ e,n,CneP p hp,fun z=>?_,d⟩;rcases au.mp (I3.stkSub p.1 z) with q | q
   · exact ne q
   · exact nf q
  ·show (none::none::σ).length=N'.length
   rw[S.len,aw,aw,I3.len]
 have st4:tn 0 h₁:=T.keep 0 s.heap h₁ st fun b _ o e=>old0 b o e
 have loop:∀ s₄:Shared,s₄ = { s3 with heap:=h₁,toks:=s3.toks+([]:List (Str×Value)).length } ->
   codeAny (model X.prog X.w) X.A (.compLoop (.ListComp elt [⟨.Tuple [.Name x px,.Name y2 py] 0 pt,iter,[],0⟩] scope pos) 0 (.ref it) (.ref s.heap.objs.size) (compEnvC scope cl s3.heap.objs.size X.env)) (RR (.ref s.heap.objs.size) s3.heap.objs.size) s₄:=by
  rintro s₄ rfl;refine kF (fun n s'=>∃ i v0 v1 ys H',Inv (bV X N' scope cl s3.heap.objs.size s3 (upd H s.heap.objs.size (.lst [])) fp) pins (v0::v1::σ) H' s'∧tn i s'.heap∧(∀ b∈fp,H' b=none)∧W i n ys H') ?_ m0
   ⟨0,none,none,[],_,I4,st4,fun b hb=>by rw[aH (fpD b hb)];exact (f2 b hb).1,w0⟩
  rintro n s5 ⟨i,v0,v1,ys,H5,I5,st5,fr5,w5⟩;rcases turn i n ys H5 w5 with ⟨stop,qn⟩ | ⟨go,hz,N,hN,step⟩
  ·refine thn (T.done (bV X N' scope cl s3.heap.objs.size s3 (upd H s.heap.objs.size (.lst [])) fp) rfl rfl rfl hc i pins s5 (v0::v1::σ) H5 (fun _ _=>False) I5 (fpOk' fr5) st5 stop) fun r s6 ⟨hr,I6⟩=>?_
   subst hr;have hch:∀ b∈fp,(b∈X.ex∨X.s₀.heap.objs.size<=b)∧b≠X.env.locals∧(∀ x c,X.env.cells.lookup x=some c->c≠b)∧∀ p∈X.pn++pins,p.1≠b:=fun b hb =>
     ⟨(f2 b hb).2.2.2.1,(f2 b hb).2.1,(f2 b hb).2.2.2.2.1,(f2 b hb).2.2.2.2.2⟩
   have I7:Inv X pins σ H5 s6:=I3.call' (ch:=fp) I6.os I6.base I6.hok I6.bare hch;obtain⟨m,hm,_⟩:=I6.loc;exact hRR s.heap.objs.size s3.heap.objs.size s6 H5 I7 ⟨m,hm⟩ CneL CneC I6.free (a7 I3.sz (af _)) CneP qn
  ·refine thn (T.item (bV X N' scope cl s3.heap.objs.size s3 (upd H s.heap.objs.size (.lst [])) fp) rfl rfl rfl hc i pins s5 (v0::v1::σ) H5 (fun _ _=>False) I5 (fpOk' fr5) st5 go) fun r s6 ⟨u,hr,h6⟩=>?_
   subst hr;refine thn h6 fun _ s7 ⟨y,H7,I7,r7,y7,st7,fr7⟩=>?_
   have I7':=I7.pinned (fpOk' fr7) (T.obj _ _ st7);obtain⟨aT,u0,u1,e7,hT7,step7⟩:=step y H7 y7;have I7c:Inv (bV X N' scope cl s3.heap.objs.size s3 (upd H s.heap.objs.size (.lst [])) fp) (pins++jZ fp s7.heap) (v0::v1::σ) H7 s7:=I7';refine thn ((show PG _ _ _ from Ad (X:=bV X N' scope cl s3.heap.objs.size s3 (upd H s.heap.objs.size (.lst [])) fp) (es:=[.Name x px,.Name y2 py]) (n:=2) hc
     (hX (bG (i:=0) S.nd S.hd (.inl (lookup_relabel_local S.var)) (.inr (lookup_relabel_local S.var))) (hX (bG (i:=1) S.nd S.hd2 (.inl (lookup_relabel_local S.var2)) (.inr (lookup_relabel_local S.var2))) uX)))
     _ s7 (v0::v1::σ) H7 y u (fun σ2 H2=>σ2=some u0::some u1::σ∧H2=H7) I7c r7 ⟨aT,[u0,u1],e7,hT7,rfl,u0,[u1],rfl,u1,[],rfl,rfl,rfl,rfl⟩) fun _ s8 ⟨σ8,H8,I8,e8,e8'⟩=>?_
   subst e8 e8';have I8':Inv (bV X N' scope cl s3.heap.objs.size s3 (upd H s.heap.objs.size (.lst [])) fp) (pins++jZ fp s7.heap) (some u0::some u1::σ) H8 s8:=I8;refine thn (he cl s3.heap.objs.size s3 (upd H s.heap.objs.size (.lst [])) fp _ s8 (some u0::some u1::σ) _ N I8' step7) fun w s9 ⟨v,H9,I9,r9,q9⟩=>?_
   obtain⟨hD9,m',hm,w9⟩:=hN v H9 q9;refine thn (cL _ s9 (some u0::some u1::σ) H9 (.ref s.heap.objs.size) [v] (.ref s.heap.objs.size) [w] (fun z H10=>z = .non∧H10=upd H9 s.heap.objs.size (.lst (ys++[v]))) I9 rfl (.cons r9 .nil) ⟨s.heap.objs.size,ys,v,rfl,rfl,hD9,hz,rfl,rfl⟩) fun _ s10 ⟨z,H10,I10,_,ez,e10⟩=>?_
   subst e10;refine⟨m',hm,i+1,some u0,some u1,ys++[v],_,I10.unpinned,T.keep _ _ _ st7 fun b hb o e=>(I10.pin (b,o) (av _ (av _ (cO hb e)))).1,fun b hb=>?_,w9⟩;obtain⟨o,e,d⟩:=T.obj _ _ st7 b hb;exact (I10.pin (b,o) (av _ (av _ (cO hb e)))).2.1
 exact codeAny_compStart_list (loop _ (by rw[<- hs3])) (T.self X.A 0 _ _ _ st4 (loop _ (by rw[<- hs3])))
end
theorem Hi {K:ac}{a b:Addr}{xs ys:List V}{te:TE}{σ:St}{H:Hp}{Q:VK}(f:V->V->V)(hx:SqL K H a xs)(hy:SqL K H b ys)(he:xs.length=ys.length)(hn:xs.length<=sizeLine)
  (hs:∀ (i:Nat) (x y:V) (H':Hp),xs[i]?=some x->ys[i]?=some y->aM H H'->∀ N:V->Hp->Prop,(∀ H'',aM H' H''->N (f x y) H'')->te (some x::some y::σ) H' N)
  (hq:∀ D H',H D=none->aM H H'->H' D=some (.lst (n6 f xs ys))->Q (.ref D) H'):vW K te σ Q (Itz K a b) H:=by
 have hzl:(n6 f xs ys).length=xs.length:=by rw[ph,<- he,Nat.min_self]
 intro D hD;refine⟨fun i m zs H2=>m=xs.length-i∧i<=xs.length∧zs=(n6 f xs ys).take i∧aM H H2∧H2 D=some (.lst zs),⟨xs.length,rfl,bi _,rfl,fun b o e=>?_,aB⟩,?_⟩
 ·rw[aH (aK e hD)]
  exact e
 ·rintro i m zs H2 ⟨rfl,hi,rfl,s2,hd⟩
  by_cases hlt:i<xs.length
  ·have h1:xs[i]?=some xs[i]:=aa hlt
   have h2:ys[i]?=some (ys[i]'(by omega)):=aa (by omega);refine .inr ⟨⟨xs,ys,_,_,s2.seq hx,s2.seq hy,h1,h2⟩,by rw[a8];omega,fun v H'=>v=f xs[i] (ys[i]'(by omega))∧aM H2 H',fun v H' ⟨ev,hs'⟩=>⟨hs' D _ hd,xs.length-(i+1),by omega,rfl,hlt,?app,fun b o e=>?kp,aB⟩,fun y H' hy'=>?stp⟩
   case app=>rw[ev,br,kg,h1,h2];rfl
   case kp =>
    rw[aH (aK e hD)];exact hs' b o (s2 b o e)
   case stp =>
    obtain⟨T,u,v,rfl,hT,rfl,y1,y3⟩:=hy';have t2:aM H2 (upd H2 T (.tup [u,v])):=fun b o e=>by rw[aH (aK e hT)];exact e
    obtain rfl:=a5 ((y1 xs (s2.seq hx)).symm.trans h1);obtain rfl:=a5 ((y3 ys (s2.seq hy)).symm.trans h2);exact⟨T,_,_,rfl,SqT.of aB,hs i _ _ _ h1 h2 (s2.trans t2) _ fun H'' h''=>⟨rfl,t2.trans h''⟩⟩
  ·have e:i=xs.length:=by omega
   subst e;rw[dm (by omega)] at hd;exact .inl ⟨⟨xs,ys,s2.seq hx,s2.seq hy,.inl (af _)⟩,hq D H2 hD s2 hd⟩
section
variable {X:Cx}{pins:List (Addr×Obj)}{σ:St}{H H':Hp}{s s':Shared}{a:Addr}{cls:Value}{E:Value->Shared->Prop}
end
section
variable {X:Cx}{pins:List (Addr×Obj)}{σ:St}{H H':Hp}{s s':Shared}{a:Addr}{cls:Value}
end
section
variable {P:Program}{w:World}{K:ac}{mg:Str->Option Value}{base:Heap}{N:List Str}{qual:Str}{scope:Scope}{f:Addr}{cdv:Value}{A:Around}{outer:List Env}{s:Shared}{H:Hp}{E:XK}
end
section
variable {X:Cx}
end
section
variable {prog:Program}{w:World}{A:Around}{E:Value->Shared->Prop}{h:Heap}{g:Array GenState}{d:Drawn}{t:Nat}{os:OsState}
variable {nm q:Str}{Cl Ns:Addr}{bs tl:List Value}{hdct:Bool}{sn:List Str}{sub:List Value}{ab:Bool}{col:Option Bool}{dd:Option Addr}{k0 k1 k2 k3 k5:Option Value}
end
section
variable {M:Model}{A:Around}{E:Value->Shared->Prop}{s:Shared}{env:Env}
variable {nm q:Str}{Cl Ns:Addr}{bs tl:List Value}{hdct:Bool}{sn:List Str}{sub:List Value}{ab:Bool}{col:Option Bool}{dd:Option Addr}{k0 k1 k2 k3 k5:Option Value}{ni:String}
end
section
variable {X:Cx}
end
open PySem.Builtin PySem.Builtin.ObjectAttr
section
variable {prog:Program}{w:World}{A:Around}{E:Value->Shared->Prop}{K:ac}{C f a x0:Addr}{F:Str}{v:Value}{s:Shared}
end
section
variable {X:Cx}
end
end L2
namespace L2
open PySem PySem.Spec PyProof.Rows
section
variable {X:Cx}{pins:List (Addr×Obj)}{σ:St}{H:Hp}{s:Shared}{a C x0:Addr}{E:Value->Shared->Prop}{od:Option Addr}
end
section
variable {X:Cx}
end
namespace EX
open PySem.W PySem.Calls PySem.Builtin PySem.Builtin.ObjectAttr PySem.Builtin.Getset_descriptor
variable {prog:Program}{w:World}{A:Around}{E:Value->Shared->Prop}{s:Shared}{K:ac}{a C:Addr}
end EX
section
variable {X:Cx}
theorem Hb (K:ac)(hK:X.K=K){tg l:Expr}{tl:TE}(hl:PE X l tl):PI X tg l (Mt K tl):=by
 subst hK;exact bL hl
end
def Ite (K:ac)(a:Addr):It :=
 ⟨fun i H=>∃ xs x,SqL K H a xs∧xs[i]?=some x,
  fun i H x H'=>∃ (T:Addr) (u:V),x = .ref T∧H T=none∧H'=upd H T (.tup [.int (i:Nat),u])∧∀ xs,SqL K H a xs->xs[i]?=some u,
  fun i H=>∃ xs,SqL K H a xs∧xs.length<=i⟩
theorem Dc {P:Program}{w:World}{K:ac}{elts:List Expr}{x1}{pos:Pos}{a e it:Addr}(hne:e≠it) :
  pQ P w K (.Tuple elts x1 pos) (Ite K a) [e,it] e (fun i h=>(∃ old,IsEnum h e it i old)∧h.IsListIter it a i) where
 mem:=by simp
 obj:=fun i h st c hc=>by
  obtain⟨⟨old,h1⟩,⟨o4,e4,c4,d4⟩⟩:=st;simp only [au,eh,or_false] at hc;rcases hc with rfl | rfl
  ·exact⟨_,h1,fun v z=>by cases z⟩
  ·exact⟨_,e4,fun v z=>by rw[d4] at z;cases z⟩
 keep:=fun i h h' st k=>by
  obtain⟨⟨old,h1⟩,h4⟩:=st;exact⟨⟨old,k e (by simp) _ h1⟩,h4.at fun o e=>k it (by simp) o e⟩
 item:=by
  intro X hP hw hK hc i pins s σ H E I hf st hg;subst hP hw hK;obtain⟨xs,x,hq1,hx⟩:=hg;obtain⟨its,rv,p,hz⟩:=I.list hq1;obtain⟨u,hu,ru⟩:=rv.get hx;obtain⟨⟨old,h1⟩,h4⟩:=st;refine wpAny_pyNext_enum_item h1 h4 p.isList (x:=u) (by simpa using hu) hne fun h' z1 z2 z3 z4 z5=>?_
  refine⟨_,rfl,wpAny_letOwnedTupleGo_enum (s:={ s with heap:=h',toks:=s.toks+1 }) z1 fun h'' y1 y2=>?_⟩;have hT:H s.heap.objs.size=none:=I.hok.fresh (af _);have I1:Inv X pins σ (upd H s.heap.objs.size (.tup [.int (i:Nat),x])) { s with heap:=s.heap.push { cls:=.type "tuple",data:=.seq #[.int i s.toks,u] },toks:=s.toks+1 } :=
   I.laid (t':=s.toks+1) (fun b u e=>Heap.get?_push_of_some _ e) (af _) ⟨(by show 2<=sizeLine;rw[sizeLine_eq];decide),[.int i s.toks,u],.cons ⟨_,rfl⟩ (.cons ru .nil),⟨_,Heap.get?_push_size _ rfl,rfl,_,rfl⟩⟩
  have nf:∀ c∈[e,it],c≠s.heap.objs.size:=fun c hc e=>by
   have lt:∃ o,s.heap.get? c=some o:=by
    obtain⟨o4,e4,_⟩:=id h4;simp only [au,eh,or_false] at hc;rcases hc with rfl | rfl
    ·exact⟨_,h1⟩
    ·exact⟨_,e4⟩
   obtain⟨o,ho⟩:=lt
   have:=Heap.lt_size ho
   rw[e] at this;exact dz _ this
  have hf1:∀ c∈[e,it],kI X pins (upd H s.heap.objs.size (.tup [.int (i:Nat),x])) c:=fun c hc=>by
   obtain⟨f0,f⟩:=hf c hc;exact⟨by rw[aH (nf c hc)];exact f0,f⟩
  have I2:Inv X pins σ (upd H s.heap.objs.size (.tup [.int (i:Nat),x])) { s with heap:=h'',toks:=s.toks+1 } :=
   Inv.turnedL (s:={ s with heap:=s.heap.push { cls:=.type "tuple",data:=.seq #[.int i s.toks,u] },toks:=s.toks+1 }) (t':=s.toks+1) (ch:=[e,it]) I1 (fun b o hb e=>by
    simp only [au,eh,or_false,not_or] at hb;obtain⟨b1,b2⟩:=hb;refine (y2.2 b b1).trans ?_;rcases Heap.get?_push_cases e with ⟨rfl,rfl⟩ | e
    ·exact z3
    ·exact z5 b o b1 b2 e) hf1
  refine⟨.ref s.heap.objs.size,_,I2,rfl,⟨s.heap.objs.size,x,rfl,hT,rfl,fun zs hzs=>by rw[I.list_inj hzs hq1];exact hx⟩,⟨⟨_,by exact_mod_cast y1⟩,?_⟩,fun c hc=>(hf1 c hc).1⟩;exact z2.at fun o e=>(y2.2 it (Ne.symm hne)).trans e
 done:=by
  intro X hP hw hK hc i pins s σ H E I hf st hg;subst hP hw hK;obtain⟨xs,hq1,hl⟩:=hg;obtain⟨its,rv,p,hz⟩:=I.list hq1;obtain⟨⟨old,h1⟩,h4⟩:=st;have l1:=rv.length;refine wpAny_pyNext_enum_end (I.ok.hd hc) h1 h4 p.isList (by simp;omega) fun h' kk=>⟨rfl,?_⟩
  exact I.turnedL (t':=s.toks) (ch:=[e,it]) (fun b o hb e=>by
   simp only [au,eh,or_false,not_or] at hb;exact kk b o hb.2 e) hf
 self:=fun A i s Q E st h=>wpAny_pyIter_enum st.1.choose_spec h
section
variable {X:Cx}
def Qm (K:ac)(ta:TA):TI:=fun σ H R=>ta σ H fun xs H1=>∃ a:Addr,xs=[.ref a]∧(∃ us,SqL K H1 a us)∧R (Ite K a) H1
theorem Lp {a:Expr}{ta:TA}{p pos pos':Pos}{elts:List Expr}{x1}(hg:Gl X "enumerate")(hm:X.mg "enumerate" = none)(ha:PA X [a] ta)(hs:starEach [a] X.env=[(false,eval a X.env)]:=by rfl) :
  PI X (.Tuple elts x1 pos') (.Call (.Name "enumerate" p) [a] [] pos) (Qm X.K ta):=by
 intro pins s σ H R I h;refine Call_ (jM I hg hm boot_enumerate (d0 (thn (ha pos pins s σ H _ I h) fun us s1 ⟨vs,H1,I1,r1,q1⟩=>?_) (by rw[hs];rfl) (by rfl)));obtain⟨l1,e,⟨us1,hq1⟩,q⟩:=q1;subst e
 cases r1 with
 | cons r rr =>
  cases rr;cases r;obtain⟨its,rv,p,hz⟩:=I1.list hq1;refine call_enumerate_list p.isList fun h' z1 z2 z3 z4=>?_
  refine wpAny_pyIter_enum (s:={ s1 with heap:=h' }) z1 ?_;have fr:∀ c,s1.heap.objs.size<=c->kI X pins H1 c:=fun c hc=>I1.fpOk hc (I1.hok.fresh hc)
  refine⟨s1.heap.objs.size+1,[s1.heap.objs.size+1,s1.heap.objs.size],_,_,H1,rfl,I1.kept (t':=s1.toks) z4,Dc (Nat.succ_ne_self _),⟨⟨_,z1⟩,z2⟩,fun c hc=>fr c ?_,q⟩;simp only [au,eh,or_false] at hc;rcases hc with rfl | rfl
  ·exact ip _ _
  ·exact af _
theorem Gi {K:ac}{a:Addr}{xs:List V}{g:TG}{tb:TS}{D:kU}{σ:St}{H:Hp}(Pv:Nat->St->Hp->Prop)(h0:Pv 0 σ H)(hl:∀ i σ H,i<=xs.length->Pv i σ H->SqL K H a xs)
  (hs:∀ i x T σ H,xs[i]?=some x->H T=none->Pv i σ H->g (.ref T) σ (upd H T (.tup [.int (i:Nat),x])) fun σ2 H2=>tb { D with nx:=Pv (i+1),ct:=Pv (i+1),bk:=D.nx } σ2 H2) (hd:∀ σ H,Pv xs.length σ H->D.nx σ H) :
  ∃ W:Nat->Nat->St->Hp->Prop,(∃ m,W 0 m σ H)∧∀ i m σ H,W i m σ H ->
   ((Ite K a).stop i H∧D.nx σ H)∨((Ite K a).go i H∧∃ N:St->Hp->Prop,(∀ σ' H',N σ' H'->∃ m',m'<m∧W (i+1) m' σ' H')∧∀ x H',(Ite K a).yld i H x H'->g x σ H' fun σ2 H2=>tb { D with nx:=N,ct:=N,bk:=D.nx } σ2 H2):=by
 refine⟨fun i m σ H=>m=xs.length-i∧i<=xs.length∧Pv i σ H,⟨xs.length,by simp,bi _,h0⟩,?_⟩;rintro i m σ H ⟨rfl,hi,p⟩;have q1:=hl i σ H hi p;by_cases hlt:i<xs.length
 ·refine .inr ⟨⟨xs,xs[i],q1,by simp[hlt]⟩,Pv (i+1),fun σ' H' p'=>⟨xs.length-(i+1),by omega,rfl,hlt,p'⟩,fun x H' y=>?_⟩
  obtain⟨T,u,rfl,hT,rfl,y1⟩:=y;exact hs i u T σ _ (y1 xs q1) hT p
 ·have e:i=xs.length:=by omega
  subst e;exact .inl ⟨⟨xs,q1,af _⟩,hd σ H p⟩
end
def Bg (i:Int):Prop:=i.natAbs<2 ^ 8000
theorem Bg.bits {i:Int}(h:Bg i):Builtin.Int.intBits i<=8000:=by
 unfold Builtin.Int.intBits;split
 ·exact bi _
 ·rename_i hn
  have h0:i.natAbs≠0:=fun z=>hn (by rw[qb.mp z];rfl)
  exact (Nat.log2_lt h0).mpr h
theorem Bg.mulOk {i j:Int}(hi:Bg i)(hj:Bg j):IntMulOk i j:=by
 unfold IntMulOk Builtin.Int.intTooBig;have h1:=hi.bits;have h2:=hj.bits;have h3:(16000:Int)<=bitsLine:=by decide +kernel
 have h4:decide (((Builtin.Int.intBits i:Nat):Int)+((Builtin.Int.intBits j:Nat):Int)>(bitsLine:Int))=false:=decide_eq_false (by omega);rw[h4,ij];exact ak
theorem Bg.noPylong {i j:Int}(hj:Bg j):Builtin.divisionGoesByPylong i j=false:=by
 unfold Builtin.divisionGoesByPylong
 have:¬ ((if (j==0)=true then 0 else j.natAbs.log2/30+1)>300):=by
  split
  ·decide
  ·rename_i hn
   have h0:j.natAbs≠0:=fun z=>hn (by rw[qb.mp z];rfl)
   have:=(Nat.log2_lt h0).mpr hj
   omega
 dsimp only
 rw[decide_eq_false this];rfl
section
variable {X:Cx}
theorem eR:OpR X (binaryOp .Mult) (rI (fun i j=>Bg i∧Bg j) fun i j=>.int (i*j)):=opI fun _ _ _ _ _ _ _ hc q=>mul_int q (hc.1.mulOk hc.2)
theorem Jz:OpR X (binaryOp .FloorDiv) (rI (fun _ j=>0<j∧Bg j) fun i j=>.int (i/j)):=opI fun i j _ _ _ _ _ hc q=>by
 have h1:(0:Int)<j:=hc.1;exact floordiv_int (by omega) (by rw[lv i (by omega)];exact q) (.inl hc.2.noPylong)
end
section
variable {X:Cx}{N':List Str}{scope:Scope}{x y2:Str}{px py py2 pt:Pos}{elt iter:Expr}{pos:Pos}{te:TE}{wi:TI}
theorem Jj (S:vQ X.N N' X.env.scope scope x y2)(hc:X.calm=true)(hi:PI X (.Tuple [.Name x px,.Name y2 py2] 0 pt) iter wi)(he:∀ cl C s H fp,PE (bV X N' scope cl C s H fp) elt te)
  (hs:∀ x,foldedSetIterable iter X.env x=pure x:=by intro _;rfl):PE X (.ListComp elt [⟨.Tuple [.Name x px,.Name y2 py2] 0 pt,iter,[],0⟩] scope pos) (Oj X.K wi te):=by
 intro pins s σ H Q I h;rw[eval_ListComp];have hfree:∀ z∈scope.names,z.2 = .free->∃ c,X.env.cells.lookup z.1=some c:=fun z hz hk=>by
  rcases S.ok z hz hk with q | q
  ·exact I.ok.has z.1 (.inl q)
  ·exact I.ok.has z.1 (.inr q)
 refine wpAny_comprehension_free (use:=none) rfl hs (fC hfree) S.kind S.names (thn (hi pins s σ H _ I h) fun xv s1 h1=>thn h1 fun itv s2 h2=>?_);obtain⟨it,fp,tn,J,H2,e,I2,T,st2,f2,hw⟩:=h2;subst e;obtain⟨cl,hcl,hrun⟩:=yP (py:=py2) (pt:=pt) (elt:=elt) (iter:=iter) (pos:=pos) (px:=px) (E:=X.xe) (RR:=fun acc C=>compPost (model X.prog X.w) X.A X.xe none (EP X pins σ Q) acc C) S hc he I2 T st2 f2 hw (fun D C s' H' I' ⟨m,hm⟩ n1 n2 n3 n4 n5 q =>
  ⟨m,hm,fun h' hsb=>⟨.ref D,H',I'.turned (it:=C) (t':=s'.toks) (fun b o hb e=>(hsb.2 b hb).trans e) n3 n1 (.inr n4) n2 n5,rfl,q⟩⟩)
 have ecl:(pure (cR X.env.cells scope.names []):Sem (List (Str×Addr)))=pure cl:=(fC hfree).symm.trans hcl;have ecl':cR X.env.cells scope.names []=cl:=by
  injection ecl
 rw[ecl'];exact hrun
end
section
variable {X:Cx}
end
end L2
namespace SR
open PySem PyProof.Rows PySem.Spec
def Sx (f:Addr->Option (List Int)):Value->Option (List Int)
 | .ref a=>f a
 | _=>none
section
variable {prog:Program}{w:World}{A:Around}{E:Value->Shared->Prop}{s:Shared}
theorem Mf {κ:KeyKind}{xs:Array Keyed}{vs:List Value}(hp:xs.Perm (pairsOf vs))(hs:SortedToK κ xs (pairsOf vs).size) :
  ((xs.map (·.2)).toList).Perm vs∧((xs.map (·.2)).toList).Pairwise (fun u v=>κ.kle ((κ.keyOf u).getD κ.dflt) ((κ.keyOf v).getD κ.dflt)):=by
 have hl:xs.toList.Perm (vs.zip vs):=by rw[<- pairsOf_toList];exact l8.mp hp
 have e2:(vs.zip vs).map (·.2)=vs:=List.map_snd_zip (af _);have y:=hl.map (fun p=>p.2);rw[e2] at y;rw[Array.toList_map];refine⟨y,fq.mpr fun i j hi hj hij=>?_⟩;rw[aR] at hi hj;have z1:(pairsOf vs).size=xs.toList.length:=by rw[bh,hp.size_eq]
 have g:∀ k (hk:k<xs.toList.length),KK κ xs k=(κ.keyOf (xs.toList[k]).2).getD κ.dflt:=fun k hk=>by
  have hm:=(mem_zip_self (hl.mem_iff.mp (b6 hk))).1;unfold KK;rw[<- et,aa hk]
  dsimp only
  rw[hm]
 have h2:=hs i j (dv hij) (by rw[z1];exact hj);rw[g i hi,g j hj] at h2;rw[ji,ji];exact h2
def Il:Value->Addr
 | .ref a=>a
 | _=>0
theorem Eg {l:List Value}{as:List Addr}(h:l.Perm (as.map Value.ref)):∃ bs:List Addr,l=bs.map Value.ref∧bs.Perm as:=by
 refine⟨l.map Il,?_,?_⟩
 ·rw[bf]
  conv=>lhs;rw[<- g9 l]
  refine bb fun v hv=>?_
  obtain⟨a,_,rfl⟩:=ar.mp (h.mem_iff.mp hv);rfl
 ·have y:=h.map Il
  rw[bf,show Il∘Value.ref=id from rfl,g9] at y;exact y
end
end SR
namespace L2
open PySem PyProof.Rows PySem.Spec
section
variable {X:Cx}
theorem qW:∀ (as:List Addr),bN (as.map V.ref) (as.map Value.ref)
 | []=>.nil
 | a::as=>.cons rfl (qW as)
end
def tupIs (K:ac)(a:Addr)(ns:List Int):Bool :=
 match K.lookup a with
 | some o=>match o.cls,o.data with
  | .type "tuple",.seq its _=>decide (its.size<=1000)&&(its.toList.map fun v=>match v with | .int i _=>some i | _=>none)==ns.map some
  | _,_=>false
 | none=>false
theorem SqT.tupIs {K:ac}{a:Addr}{ns:List Int}{H:Hp}(h:tupIs K a ns=true):SqT K H a (ns.map V.int):=by
 unfold L2.tupIs at h
 cases hk:K.lookup a with
 | none=>rw[hk] at h;cases h
 | some o =>
  rw[hk] at h
  dsimp only at h
  split at h
  ·rename_i its n hc hd
   rw[dg,decide_eq_true_iff,beq_iff_eq] at h;refine .inr ⟨o,its,n,hk,hc,hd,a7 h.1 (by rw[sizeLine_eq];decide),?_⟩;have key:∀ (ns:List Int) (us:List Value),(us.map fun v=>match v with | .int i _=>some i | _=>none)=ns.map some->bN (ns.map V.int) us:=fun ns=>by
    induction ns with
    | nil =>
     intro us hu
     cases us with
     | nil=>exact .nil
     | cons u us=>cases hu
    | cons i ns ih =>
     intro us hu
     cases us with
     | nil=>cases hu
     | cons u us =>
      rw[a0,a0] at hu;obtain⟨h1,h2⟩:=jl hu;refine .cons ?_ (ih us h2);split at h1
      ·rename_i j t
       obtain rfl:=a5 h1;exact⟨_,rfl⟩
      ·cases h1
   exact key ns _ h.2
  ·cases h
section
variable {X:Cx}
end
def dI (K:ac)(H:Hp)(as:List Addr)(M:List (List Int)):Prop:=as.length=M.length∧∀ (i:Nat) (a:Addr) (r:List Int),as[i]?=some a->M[i]?=some r->SqL K H a (r.map V.int)
section
variable {K:ac}{H G:Hp}{as:List Addr}{M:List (List Int)}
theorem dI.on (h:dI K H as M)(s:aM H G):dI K G as M:=⟨h.1,fun i a r e1 e2=>s.seq (h.2 i a r e1 e2)⟩
theorem dI.at (h:dI K H as M){i:Nat}{v:V}(hv:(as.map V.ref)[i]?=some v):∃ (a:Addr) (r:List Int),v = .ref a∧M[i]?=some r∧SqL K H a (r.map V.int):=by
 rw[aj] at hv;obtain⟨a,ha,rfl⟩:=ba.mp hv;have hi:=(al.mp ha).1;obtain⟨r,hr⟩:∃ r,M[i]?=some r:=⟨_,aa (by rw[<- h.1];exact hi)⟩;exact⟨a,r,rfl,hr,h.2 i a r ha hr⟩
theorem dI.sub (h:dI K H as M)(f:Nat->Nat)(bs:List Addr)(N:List (List Int))(hl:bs.length=N.length)(h1:∀ i b,bs[i]?=some b->as[f i]?=some b)(h2:∀ i r,N[i]?=some r->M[f i]?=some r):dI K H bs N:=⟨hl,fun i a r e1 e2=>h.2 (f i) a r (h1 i a e1) (h2 i r e2)⟩
theorem dI.erase (h:dI K H as M)(p:Nat):dI K H (as.eraseIdx p) (M.eraseIdx p) :=
 h.sub (fun i=>if i<p then i else i+1) _ _ (by rw[g7,g7,h.1]) (fun i b e=>by rw[jx] at e;split <;> simp_all) (fun i b e=>by rw[jx] at e;split <;> simp_all)
end
theorem Qz {K:ac}{J:It}{as:List Addr}{M:List (List Int)}{te:TE}{σ:St}{H:Hp}{Q:VK}(g:List Int->List Int)(rd:jS J H (as.map V.ref))(hR:dI K H as M)(hn:as.length<=sizeLine)
  (he:∀ a r H',r∈M->SqL K H' a (r.map V.int)->aM H H'->∀ N:V->Hp->Prop,(∀ c H'',aM H' H''->(H' c=none)->H'' c=some (.lst ((g r).map V.int))->N (.ref c) H'')->te (some (.ref a)::σ) H' N)
  (hq:∀ D bs H',H D=none->aM H H'->H' D=some (.lst (bs.map V.ref))->(∀ b∈bs,b≠D)->dI K H' bs (M.map g)->Q (.ref D) H'):iZ te σ Q J H:=by
 intro D hD;refine⟨fun i m ys H2=>m=as.length-i∧i<=as.length∧aM H H2∧H2 D=some (.lst ys)∧∃ bs:List Addr,ys=bs.map V.ref∧bs.length=i∧∀ (j:Nat) (b:Addr) (r:List Int),bs[j]?=some b->M[j]?=some r->b≠D∧H2 b=some (.lst ((g r).map V.int)),⟨as.length,rfl,bi _,fun b o e=>?_,aB,[],rfl,rfl,fun j b r e=>by simp at e⟩,?_⟩
 ·rw[aH (aK e hD)]
  exact e
 ·rintro i m ys H2 ⟨rfl,hi,hs,hd,bs,rfl,hl,hb⟩
  by_cases hlt:i<as.length
  ·have hlt':i<(as.map V.ref).length:=by rw[aR];exact hlt
   obtain⟨a,r,ha,hr,_⟩:=hR.at (i:=i) (v:=(as.map V.ref)[i]) (aa hlt');refine .inr ⟨rd.go i H2 hs hlt',by rw[aR];omega,fun v H'=>aM H2 H'∧∃ c,v = .ref c∧c≠D∧H' c=some (.lst ((g r).map V.int)),fun v H' ⟨hs',c,ev,hcD,hc⟩=>⟨hs' D _ hd,as.length-(i+1),by omega,rfl,hlt,fun b o e=>?kp,aB,bs++[c],?app,by rw[ag,hl];rfl,fun j b r' e1 e2=>?la⟩,fun y H' hy=>?stp⟩
   case app =>
    rw[ev,ax];rfl
   case kp =>
    rw[aH (aK e hD)];exact hs' b o (hs b o e)
   case la =>
    by_cases hj:j<bs.length
    ·rw[gy hj] at e1
     obtain⟨h1,h2⟩:=hb j b r' e1 e2;exact⟨h1,by rw[aH h1];exact hs' b _ h2⟩
    ·have hj':j=bs.length:=by
      have:=(al.mp e1).1
      rw[ag,da] at this;omega
     subst hj';rw[fg (af _),ql] at e1;obtain rfl:c=b:=a5 e1;rw[hl,hr] at e2;obtain rfl:=a5 e2;exact⟨hcD,by rw[aH hcD];exact hc⟩
   case stp =>
    obtain⟨rfl,e2⟩:=rd.yl i H2 y H' hs hy;obtain⟨a2,r2,rfl,hr2,hs2⟩:=(hR.on hs).at e2;rw[hr] at hr2;obtain rfl:=a5 hr2;exact he a2 r _ (az hr) hs2 hs _ fun c H'' s'' hc hc2=>⟨s'',c,rfl,fun z=>(by rw[z,hd] at hc;cases hc),hc2⟩
  ·have e:i=as.length:=by omega
   have hst:=rd.st H2 hs;rw[aR] at hst;subst e;have hlM:=hR.1;refine .inl ⟨hst,hq D bs H2 hD hs hd (fun b hb'=>?_) ⟨by rw[hl,aR,hlM],fun j b r e1 e2=>?_⟩⟩
   ·obtain⟨j,hj⟩:=fb hb'
    have hjl:=(al.mp hj).1;exact (hb j b _ hj (aa (show j<M.length by omega))).1
   ·rw[aj] at e2
    obtain⟨r',hr',rfl⟩:=ba.mp e2;exact SqL.of (hb j b r' e1 hr').2
theorem Qi {K:ac}{J:It}{as:List Addr}{M:List (List Int)}{te:TE}{σ:St}{H:Hp}{Q:VK}(g:List Int->Int)(rd:jS J H (as.map V.ref))(hR:dI K H as M)(hn:as.length<=sizeLine)
  (he:∀ a r H',r∈M->SqL K H' a (r.map V.int)->aM H H'->∀ N:V->Hp->Prop,(∀ H'',aM H' H''->N (.int (g r)) H'')->te (some (.ref a)::σ) H' N)
  (hq:∀ D H',H D=none->aM H H'->H' D=some (.lst ((M.map g).map V.int))->Q (.ref D) H'):iZ te σ Q J H:=by
 intro D hD;have hlM:=hR.1;refine⟨fun i m ys H2=>m=as.length-i∧i<=as.length∧aM H H2∧H2 D=some (.lst ys)∧ys=((M.take i).map g).map V.int,⟨as.length,rfl,bi _,fun b o e=>?_,aB,rfl⟩,?_⟩
 ·rw[aH (aK e hD)]
  exact e
 ·rintro i m ys H2 ⟨rfl,hi,hs,hd,rfl⟩
  by_cases hlt:i<as.length
  ·have hlt':i<(as.map V.ref).length:=by rw[aR];exact hlt
   have hr:M[i]?=some (M[i]'(by omega)):=aa (by omega);refine .inr ⟨rd.go i H2 hs hlt',by rw[aR,aR,a8];omega,fun v H'=>v = .int (g (M[i]'(by omega)))∧aM H2 H',fun v H' ⟨ev,hs'⟩=>⟨hs' D _ hd,as.length-(i+1),by omega,rfl,hlt,fun b o e=>?kp,aB,?app⟩,fun y H' hy=>?stp⟩
   case app =>
    rw[ev,br,hr,ax,ax];rfl
   case kp =>
    rw[aH (aK e hD)];exact hs' b o (hs b o e)
   case stp =>
    obtain⟨rfl,e2⟩:=rd.yl i H2 y H' hs hy;obtain⟨a2,r2,rfl,hr2,hs2⟩:=(hR.on hs).at e2;obtain rfl:=a5 (hr2.symm.trans hr);exact he a2 _ _ (az hr) hs2 hs _ fun H'' s''=>⟨rfl,s''⟩
  ·have e:i=as.length:=by omega
   have hst:=rd.st H2 hs;rw[aR] at hst;subst e;rw[dm (by omega)] at hd;exact .inl ⟨hst,hq D H2 hD hs hd⟩
section
variable {X:Cx}{pins:List (Addr×Obj)}{σ:St}{H:Hp}{s:Shared}{a:Addr}{kvs:List (Key×V)}{k:Key}{A:Around}{E:Value->Shared->Prop}
theorem Iv {v:V}{u r:Value}{Q:Value->Shared->Prop}(I:Inv X pins σ H s)(e:H a=some (.dK kvs))(ry:bF (kV k) u)(rv:bF v r)(hz:kvs.length<sizeLine)
  (h1:∀ x,eM kvs k=some x->∀ w' s',Inv X pins σ H s'->bF x w'->Q w' s') (h2:eM kvs k=none->∀ s',Inv X pins σ (upd H a (.dK (eD kvs k v))) s'->Q r s') :
  wpAny (model X.prog X.w) A (call (.builtin "dict.setdefault") [.ref a,u,r]) Q E s:=by
 obtain⟨z,hd,vs,rel,dd⟩:=qQ I.hok e;refine call_meetsIn li dd.typeIs PySem.F.entry_dict_setdefault (PySem.F.args_dict_setdefault_3 _ _ _) (kt_meets_setdefault (bJ X.prog X.w) a (oC ry) hd r)
  ⟨vs,dd,by rw[<- rel.length];exact z,fun w' hw=>?_,fun hn h' dd' hs=>?_⟩
 ·cases l:eM kvs k with
  | none =>
   have:=iD.none_of (o:=valueAt vs k) (by rw[<- l];exact rel.val k)
   rw[this] at hw;cases hw
  | some x =>
   obtain⟨w2,hw2,rw2⟩:=iD.some_of (v:=x) (o:=valueAt vs k) (by rw[<- l];exact rel.val k);rw[hw] at hw2;obtain rfl:=a5 hw2;exact h1 x l w' _ (I.tok _) rw2
 ·have l:eM kvs k=none:=by
   cases l:eM kvs k with
   | none=>rfl
   | some x =>
    obtain⟨w2,hw2,_⟩:=iD.some_of (v:=x) (o:=valueAt vs k) (by rw[<- l];exact rel.val k);rw[hn] at hw2;cases hw2
  have he:∃ q,h'.get? a=some q:=let ⟨q,_,_,hq,_⟩:=dd';⟨q,hq⟩
  have hl:(eD kvs k v).length<=sizeLine:=by have:=gR kvs k v;omega
  exact h2 l _ (pE I (by rw[e];exact True.intro) hs he (vO hl hd (rel.put k rv) dd'))
end
def Sj (td ty tx:TE):TE:=fun σ H Q=>td σ H fun x H1=>∃ a,x = .ref a∧(∃ kvs,H1 a=some (.dK kvs))∧ty σ H1 fun y H2=>tx σ H2 fun z H3=>∃ kvs k,H3 a=some (.dK kvs)∧y=kV k∧kvs.length<sizeLine∧(∀ v,eM kvs k=some v->Q v H3)∧(eM kvs k=none->Q z (upd H3 a (.dK (eD kvs k z))))
section
variable {X:Cx}{o e f:Expr}{apos cpos:Pos}{td ty tx:TE}
theorem qM (ho:PE X o td)(he:PE X e ty)(hf:PE X f tx)(m:M2 X o "setdefault" apos e f cpos):PE X (.Call (.Attribute o "setdefault" apos) [e,f] [] cpos) (Sj td ty tx):=by
 intro pins s σ H Q I h;refine wpAny_Call_method m.base m.few m.line nh li PySem.F.type_dict_setdefault (thn (ho pins s σ H _ I h) fun u s1 ⟨x,H1,I1,rx,a,ex,⟨kvs0,d⟩,q1⟩=>?_);subst ex;obtain rfl:u=Value.ref a:=rx;obtain⟨z0,hd0,vs0,rel0,dd0⟩:=qQ I1.hok d;refine⟨dd0.typeIs,fun b q=>?_,?_⟩
 ·cases q
  obtain⟨ob,_,_,g1,g2,_⟩:=dd0;exact⟨ob,g1,g2.2.1⟩
 rw[m.trees];refine Calls.callWith_builtin rfl (Calls.evalArgs_plain (Calls.spliced_cons (thn (he pins s1 σ H1 _ I1 q1) fun iv s2 ⟨y,H2,I2,ry,q2⟩ =>
  Calls.spliced_cons (thn (hf pins s2 σ H2 _ I2 q2) fun fv s3 ⟨z,H3,I3,rz,kvs,k,ea,ey,hz,q3,q4⟩=>Calls.spliced_nil ?_))))
 subst ey;exact Iv I3 ea ry rz hz (fun v l w' s4 I4 rw'=>⟨v,H3,I4,rw',q3 v l⟩) fun l s4 I4=>⟨z,_,I4,rz,q4 l⟩
theorem yC:dX X (.type "dict") (fun xs H Q=>∃ (a:Addr) (kvs:List (Key×V)),xs=[.ref a]∧H a=some (.dK kvs)∧∀ p,H p=none->Q (.ref p) (upd H p (.dK kvs))):=by
 intro pins s σ H xs us Q I r h;obtain⟨a,kvs,rfl,e,q⟩:=h;obtain⟨u,rfl,ru⟩:=fE r;obtain rfl:u = .ref a:=ru;exact Iz I (.inl e) fun p s' hp I'=>⟨.ref p,_,I',rfl,q p hp⟩
end
end L2
namespace SS
open PySem PyProof.Rows L2
section
variable {prog:Program}{w:World}{A:Around}{E:Value->Shared->Prop}{s:Shared}
theorem Db {a:Addr}{vs:List (Key×Value)}{ep:Nat}{R:Result->Shared->Prop}(hh:A.handled=none)(hd:(a==sysModules)=false)(hD:Heap.DictAt (bJ prog w) s.heap a vs ep)(hz:vs.length<=sizeLine)(S:Addr)(h1:S≠a)(hS:s.heap.get? S=some { cls:=.type "list",data:=.seq #[] })
  (hR:∀ s' acc' c',(∀ b o,b≠S->s.heap.get? b=some o->s'.heap.get? b=some o)->s'.gens=s.gens->s'.os=s.os->s'.heap.get? S=some { cls:=.type "list",dict:=none,data:=.seq acc' c',slots:=#[] }->ItemsOf (sH vs) acc' vs.length->R (.ok (.ret .none)) s') :
  wpAny (model prog w) A.in1 (Builtin.«list.__init__» ⟨[.ref S,.ref a],[]⟩)
   (fun fin s'=>match fin with | .done f=>R (.ok f) s' | .again c'=>c'.quiet=true∧codeAny (model prog w) A c' R s') (fun e s'=>R (.error e) s') s:=by
 show wpAny _ _ (do let old <- Builtin.List.listItems (.ref S);Builtin.List.listUpdate (.ref S) (fun _=>#[]);letGo old.toList.reverse;Builtin.List.listExtendWith (.ref S) (.ref a) .none) _ _ s;refine wpAny_bind ?_;unfold Builtin.List.listItems;refine wpAny_bind (wpAny_seqItems hS rfl (wpAny_pure ?_));show wpAny _ _ (updateSeq S (fun _=>#[]) >>= fun _=>letGo (#[]:Array Value).toList.reverse >>= fun _=>Builtin.List.listExtendWith (.ref S) (.ref a) .none) _ _ s;refine wpAny_bind (wpAny_updateSeq hS rfl ?_);have hS₂:=Heap.get?_update_self (Obj.mapSeq (fun _=>(#[]:Array Value))) hS rfl;have oth:∀ b o,b≠S->s.heap.get? b=some o->(s.heap.update S (Obj.mapSeq (fun _=>(#[]:Array Value)))).get? b=some o :=
  fun b o hb e=>(Heap.get?_update_other _ _ (Ne.symm hb)).trans e
 refine wpAny_bind (wpAny_letGo ?_);have hD2:Heap.DictAt (bJ prog w) (s.heap.update S (Obj.mapSeq (fun _=>(#[]:Array Value)))) a vs ep:=by
  obtain⟨o,es,g,r⟩:=hD;exact⟨o,es,oth a o (Ne.symm h1) g,r⟩
 refine rE (A:=A) (s:={ s with heap:=s.heap.update S (Obj.mapSeq (fun _=>(#[]:Array Value))) }) hh hd hD2 hz S .none h1 hS₂ fun s' acc' c' kp g1 g2 e1 e2=>?_
 exact hR s' acc' c' (fun b o hb e=>kp b o hb (oth b o hb e)) g1 g2 e1 e2
theorem qU {a:Addr}{vs:List (Key×Value)}{ep:Nat}{Q:Value->Shared->Prop}(hh:A.handled=none)(hd:(a==sysModules)=false)(hD:Heap.DictAt (bJ prog w) s.heap a vs ep)(hz:vs.length<=sizeLine)
  (hQ:∀ (s':Shared) (acc:Array Value) (c':Nat),(∀ b o,s.heap.get? b=some o->s'.heap.get? b=some o)->s'.gens=s.gens->s'.os=s.os->s'.heap.get? s.heap.objs.size=some { cls:=.type "list",dict:=none,data:=.seq acc c',slots:=#[] }->ItemsOf (sH vs) acc vs.length->Q (.ref s.heap.objs.size) s') :
  wpAny (model prog w) A (call (.type "list") [.ref a]) Q E s:=by
 have hlt:a<s.heap.objs.size:=by obtain⟨o,es,g,r⟩:=hD;exact Heap.lt_size g
 refine callType_codes (Q₁:=fun obj s₁=>obj = .ref s.heap.objs.size∧s₁ = { s with heap:=s.heap.push { cls:=.type "list",data:=.seq #[] } }) F.called_list (F.typeCall_list_1 _) F.entry_list_init
  (code_list_new _ ⟨rfl,rfl⟩) fun obj s₁ h₁=>?_
 obtain⟨rfl,rfl⟩:=h₁;have hS:(s.heap.push { cls:=.type "list",data:=.seq #[] }).get? s.heap.objs.size=some { cls:=.type "list",data:=.seq #[] }:=Heap.get?_push_size _ rfl
 refine⟨⟨_,hS,rfl⟩,F.args_list_init_2 _ _,Db (A:=A.in1) (s:={ s with heap:=s.heap.push { cls:=.type "list",data:=.seq #[] } }) hh hd (qG hD) hz _ (fu hlt) hS fun s' acc' c' kp g1 g2 e1 e2=>?_⟩
 exact⟨rfl,hQ s' acc' c' (fun b o e=>kp b o (ay (Heap.lt_size e)) (Heap.get?_push_of_some _ e)) g1 g2 e1 e2⟩
end
end SS
namespace L2
open PySem PyProof.Rows
section
variable {X:Cx}
theorem tR:∀ {us:List Value} {ls:List (List Nat)},StrsAre us (ls.map tx)->bN (ls.map T) us
 | [],[],_=>.nil
 | u::us,l::ls,h=>by
  cases h with
  | cons x t r=>exact .cons ⟨_,rfl⟩ (tR r)
theorem lQ (hc:X.calm=true):dX X (.type "list") (fun xs H Q=>∃ (p:Addr) (ls:List (List Nat)) (kvs:List (Key×V)),xs=[.ref p]∧H p=some (.dK kvs)∧kvs.map (·.1)=ls.map (fun t=>bx (tx t))∧∀ (D:Addr),H D=none->Q (.ref D) (upd H D (.lst (ls.map T)))):=by
 intro pins s σ H xs us Q I r h;obtain⟨p,ls,kvs,rfl,hq,hk,q⟩:=h;obtain⟨u,rfl,ru⟩:=fE r;cases ru;obtain⟨z,hd,vs,rel,dd⟩:=qQ I.hok hq;obtain⟨o,es,ep,rest⟩:=dd;have hl:ls.length=kvs.length:=by have:=congrArg ge hk;simpa using this.symm
 refine SS.qU (vs:=vs) (ep:=ep) (I.ok.hd hc) hd ⟨o,es,rest⟩ (by rw[<- rel.length];exact z) fun s' acc c' kp g1 g2 e1 e2=>?_
 have hv:=tR (tD hk rel e2);have hg:AllBare s'.gens:=by rw[g1];exact I.bare
 have hf:H s.heap.objs.size=none:=I.hok.fresh (af _);have new:cJ X.prog X.w (upd H s.heap.objs.size (.lst (ls.map T))) s'.heap s.heap.objs.size (.lst (ls.map T)):=⟨by rw[aR,hl];exact z,acc.toList,c',hv,by simpa using e1⟩;exact⟨.ref s.heap.objs.size,_,I.call' (ch:=[]) g2 (Un.laid kp (af _) hf) (I.hok.laid kp (af _) new) hg (fun _ z=>nomatch z),rfl,q _ hf⟩
end
theorem Np {K:ac}{J:It}{vs:List V}{te:TE}{σ:St}{H:Hp}{Q:VK}(g:V->List Int)(rd:jS J H vs)(hn:vs.length<=sizeLine)
  (he:∀ v H',v∈vs->aM H H'->∀ N:V->Hp->Prop,(∀ c H'',aM H' H''->H' c=none->H'' c=some (.lst ((g v).map V.int))->N (.ref c) H'')->te (some v::σ) H' N)
  (hq:∀ D bs H',H D=none->aM H H'->H' D=some (.lst (bs.map V.ref))->(∀ b∈bs,b≠D)->dI K H' bs (vs.map g)->Q (.ref D) H'):iZ te σ Q J H:=by
 intro D hD;refine⟨fun i m ys H2=>m=vs.length-i∧i<=vs.length∧aM H H2∧H2 D=some (.lst ys)∧∃ bs:List Addr,ys=bs.map V.ref∧bs.length=i∧∀ (j:Nat) (b:Addr) (v:V),bs[j]?=some b->vs[j]?=some v->b≠D∧H2 b=some (.lst ((g v).map V.int)),⟨vs.length,rfl,bi _,fun b o e=>?_,aB,[],rfl,rfl,fun j b r e=>by simp at e⟩,?_⟩
 ·rw[aH (aK e hD)]
  exact e
 ·rintro i m ys H2 ⟨rfl,hi,hs,hd,bs,rfl,hl,hb⟩
  by_cases hlt:i<vs.length
  ·obtain⟨r,hr⟩:∃ r,vs[i]?=some r:=⟨_,aa hlt⟩
   refine .inr ⟨rd.go i H2 hs hlt,by rw[aR];omega,fun v H'=>aM H2 H'∧∃ c,v = .ref c∧c≠D∧H' c=some (.lst ((g r).map V.int)),fun v H' ⟨hs',c,ev,hcD,hc⟩=>⟨hs' D _ hd,vs.length-(i+1),by omega,rfl,hlt,fun b o e=>?kp,aB,bs++[c],?app,by rw[ag,hl];rfl,fun j b r' e1 e2=>?la⟩,fun y H' hy=>?stp⟩
   case app =>
    rw[ev,ax];rfl
   case kp =>
    rw[aH (aK e hD)];exact hs' b o (hs b o e)
   case la =>
    by_cases hj:j<bs.length
    ·rw[gy hj] at e1
     obtain⟨h1,h2⟩:=hb j b r' e1 e2;exact⟨h1,by rw[aH h1];exact hs' b _ h2⟩
    ·have hj':j=bs.length:=by
      have:=(al.mp e1).1
      rw[ag,da] at this;omega
     subst hj';rw[fg (af _),ql] at e1;obtain rfl:c=b:=a5 e1;rw[hl,hr] at e2;obtain rfl:=a5 e2;exact⟨hcD,by rw[aH hcD];exact hc⟩
   case stp =>
    obtain⟨rfl,e2⟩:=rd.yl i H2 y H' hs hy;rw[hr] at e2;obtain rfl:=a5 e2;exact he r _ (az hr) hs _ fun c H'' s'' hc hc2=>⟨s'',c,rfl,fun z=>(by rw[z,hd] at hc;cases hc),hc2⟩
  ·have e:i=vs.length:=by omega
   have hst:=rd.st H2 hs;subst e;refine .inl ⟨hst,hq D bs H2 hD hs hd (fun b hb'=>?_) ⟨by rw[hl,aR],fun j b r e1 e2=>?_⟩⟩
   ·obtain⟨j,hj⟩:=fb hb'
    have hjl:=(al.mp hj).1;exact (hb j b _ hj (aa (show j<vs.length by omega))).1
   ·rw[aj] at e2
    obtain⟨r',hr',rfl⟩:=ba.mp e2;exact SqL.of (hb j b r' e1 hr').2
section
variable {X:Cx}{pins:List (Addr×Obj)}{σ:List (Option V)}{H H':Hp}{s:Shared}
theorem Inv.reH (I:Inv X pins σ H s)(free:∀ b,H b=none->H' b=none)(tups:∀ b xs,X.H₀ b=some (.tup xs)->H' b=some (.tup xs))(frzs:∀ b o u,X.H₀ b=some (.frz o u)->H' b=some (.frz o u))(tbls:∀ b ps,X.H₀ b=some (.tbl ps)->∃ more,H' b=some (.tbl (ps++more)))
  (hok:HOk X.prog X.w H' s.heap):Inv X pins σ H' s :=
 ⟨I.ok,I.os,I.bare,⟨I.base.keep,I.base.slot,fun b o e n hx=>free b (I.base.free b o e n hx),I.base.there,tups,frzs,tbls⟩,I.loc,I.cell,free _ I.free,fun x c e=>free _ (I.freeC x c e),fun p hp=>⟨(I.pin p hp).1,free _ (I.pin p hp).2.1,(I.pin p hp).2.2⟩,hok,I.len⟩
theorem By {P:Program}{w:World}{h:Heap}{a:Addr}{u v:HO}(x:HOk P w H h)(ha:H a=some u)(h1:∀ y,u≠.own y)(h2:∀ xs,u≠.tup xs)(ok:cJ P w H h a v):HOk P w (upd H a v) h:=by
 have ho:∀ y b,H b=some (.own y)->upd H a v b=some (.own y):=fun y b e=>by
  rw[aH (fun z=>by rw[z,ha] at e;exact h1 y (a5 e))];exact e
 have ht:∀ b xs,H b=some (.tup xs)->upd H a v b=some (.tup xs):=fun b xs e=>by
  rw[aH (fun z=>by rw[z,ha] at e;exact h2 xs (a5 e))];exact e
 intro b o e;by_cases c:b=a
 ·subst c
  rw[aB] at e;cases e;exact ok.stay (fun _ _ _ e=>e) (fun c=>ho b c) ht
 ·rw[aH c] at e
  exact (x b o e).stay (fun _ _ _ e=>e) (fun c=>ho b c) ht
theorem Inv.freeze {a:Addr}{kvs:List (Key×V)}(I:Inv X pins σ H s)(e:H a=some (.dK kvs)):∃ o,s.heap.get? a=some o∧Inv X pins σ (upd H a (.frz o (.dK kvs))) s:=by
 have hx:cJ X.prog X.w H s.heap a (.dK kvs):=I.hok a _ e;obtain⟨o,ho⟩:∃ o,s.heap.get? a=some o:=by
  obtain⟨_,_,_,_,o,_,_,q,_⟩:=hx;exact⟨o,q⟩
 have ne:∀ b u,X.H₀ b=some u->H b=some u->(∀ k,u≠.dK k)->upd H a (.frz o (.dK kvs)) b=some u:=fun b u _ q n=>by
  rw[aH (fun z=>by rw[z,e] at q;exact n _ (a5 q).symm)];exact q
 refine⟨o,ho,I.reH (fun b n=>?_) (fun b xs q=>ne b _ q (I.base.tups b xs q) (fun k z=>nomatch z)) (fun b o' u q=>ne b _ q (I.base.frzs b o' u q) (fun k z=>nomatch z)) (fun b ps q=>?_) (By I.hok e (fun y z=>nomatch z) (fun xs z=>nomatch z) ⟨ho,hx⟩)⟩
 ·rw[aH (fun z=>by rw[z,e] at n;cases n)];exact n
 ·obtain⟨m,q'⟩:=I.base.tbls b ps q
  exact⟨m,by rw[aH (fun z=>by rw[z,e] at q';cases q')];exact q'⟩
end
def Itk (a:Addr)(o:Obj)(kvs:List (Key×V)):It :=
 ⟨fun i H=>H a=some (.frz o (.dK kvs))∧i<kvs.length,fun i H x H'=>H'=H∧∃ kv,kvs[i]?=some kv∧x=kV kv.1,fun i H=>H a=some (.frz o (.dK kvs))∧kvs.length<=i⟩
theorem Hr {P:Program}{w:World}{k:Key}{u:Value}(h:(bJ P w).is k u=true):bF (kV k) u:=by
 cases k with
 | inl i =>
  have h:Value.isInt i u=true:=h
  have:∃ t,u = .int i t:=by cases u <;> simp_all [Value.isInt]
  obtain⟨t,rfl⟩:=this;exact⟨t,rfl⟩
 | inr x =>
  obtain⟨t,rfl⟩:=Value.isStrOf_shape (show Value.isStrOf x u=true from h);exact⟨t,rfl⟩
theorem Dh {P:Program}{w:World}{K:ac}{tg:Expr}{a it:Addr}{o:Obj}{kvs:List (Key×V)}{vs:List (Key×Value)}{ep:Nat}(hK:KV kvs vs)(hd:∀ h:Heap,h.get? a=some o->h.DictAt (bJ P w) a vs ep) :
  pQ P w K tg (Itk a o kvs) [it] it (fun i h=>h.IsKeyIter it a i vs.length ep) where
 mem:=by simp
 obj:=fun i h st b hb=>by
  have e:b=it:=by simpa using hb
  subst e;obtain⟨o,e,c,d⟩:=st;exact⟨o,e,fun v z=>by rw[d] at z;cases z⟩
 keep:=fun i h h' st k=>st.at fun o e=>k it (by simp) o e
 item:=by
  intro X hP hw hK' hc i pins s σ H E I hf st hg;subst hP hw hK';obtain⟨ha,hi⟩:=hg;obtain⟨ho,_⟩:cJ X.prog X.w H s.heap a (.frz o (.dK kvs)):=I.hok a _ ha;have hl:=hK.length;obtain⟨f0,f1,f2,f3,f4,f5⟩:=hf it (by simp);have hvi:vs[i]?=some vs[i]:=aa (by omega);have hki:kvs[i]?=some kvs[i]:=aa hi;have hkk:kvs[i].1=vs[i].1:=by
   have:=hK.keys
   have h1:(kvs.map (·.1))[i]?=(vs.map (·.1))[i]?:=by rw[this]
   rw[aj,aj,hki,hvi] at h1;exact a5 h1
  refine wpAny_pyNext_dict_item (k:=vs[i].1) (v:=vs[i].2) st (hd _ ho) hvi fun key h' hkey st' sb=>?_
  have I1:Inv X pins σ H { s with heap:=h' }:=I.turned (t':=s.toks) (fun b o hb e=>(sb.2 b hb).trans e) f0 f1 f3 f4 f5;exact⟨key,rfl,letGo_keyiter (s':={ s with heap:=h' }) st' ⟨kV kvs[i].1,H,I1,by rw[hkk];exact Hr hkey,⟨rfl,_,hki,rfl⟩,st',fun b hb=>(hf b hb).1⟩⟩
 done:=by
  intro X hP hw hK' hc i pins s σ H E I hf st hg;subst hP hw hK';obtain⟨ha,hi⟩:=hg;obtain⟨ho,_⟩:cJ X.prog X.w H s.heap a (.frz o (.dK kvs)):=I.hok a _ ha;have hl:=hK.length;obtain⟨f0,f1,f2,f3,f4,f5⟩:=hf it (by simp);exact wpAny_pyNext_dict_end (I.ok.hd hc) st (hd _ ho) (cp (by omega)) fun h' eb=>⟨rfl,I.turned (t':=s.toks) (fun b o hb e=>eb b o hb e) f0 f1 f3 f4 f5⟩
 self:=fun _ _ _ _ _ st h=>wpAny_pyIter_keyiter st h
def Si (td:TE):TI:=fun σ H R=>td σ H fun x H1=>∃ a kvs,x = .ref a∧H1 a=some (.dK kvs)∧∀ o,R (Itk a o kvs) (upd H1 a (.frz o (.dK kvs)))
section
variable {X:Cx}{tg:Expr}
theorem Ki {l:Expr}{tl:TE}(hl:PE X l tl):PI X tg l (Si tl):=by
 intro pins s σ H R I h;refine thn (hl pins s σ H _ I h) fun v s1 ⟨x,H1,I1,r1,q1⟩=>?_
 obtain⟨a,kvs,e,ha,q⟩:=q1;subst e;cases r1;obtain⟨z,hsm,vs,rel,dd⟩:=qQ I1.hok ha;obtain⟨ep,dat⟩:=dd.dictAt;obtain⟨o,ho,I2⟩:=I1.freeze ha;refine wpAny_pyIter_dict hsm dat ?_;refine⟨s1.heap.objs.size,[s1.heap.objs.size],_,_,_,rfl,I2.kept (t':=s1.toks) fun b o e=>Heap.get?_push_of_some _ e,Dh rel (fun h e=>dat.at' fun o' e'=>by rw[ho] at e';rw[<- e'];exact e),⟨_,Heap.get?_push_size _ rfl,rfl,rfl⟩,fun b hb=>?_,q o⟩;have e:b=s1.heap.objs.size:=by simpa using hb
 subst e;exact I2.fpOk (af _) (I2.hok.fresh (af _))
end
section
variable {X:Cx}{o:Expr}{td:TE}{apos cpos:Pos}
end
open PySem.Spec
section
variable {X:Cx}
end
end L2
namespace L2
open PySem PyProof.Rows
section
variable {X:Cx}{pins:List (Addr×Obj)}{σ:St}{H:Hp}{s:Shared}
theorem Inv.thawD {a:Addr}{o:Obj}{kvs k0:List (Key×V)}(I:Inv X pins σ H s)(e:H a=some (.frz o (.dK kvs)))(h0:X.H₀ a=some (.dK k0)):Inv X pins σ (upd H a (.dK kvs)) s:=by
 obtain⟨_,hx⟩:cJ X.prog X.w H s.heap a (.frz o (.dK kvs)):=I.hok a _ e;refine I.reH (fun b n=>?_) (fun b xs q=>?_) (fun b o' u q=>?_) (fun b ps q=>?_) (By I.hok e (fun y z=>nomatch z) (fun xs z=>nomatch z) hx)
 ·rw[aH (fun z=>by rw[z,e] at n;cases n)];exact n
 ·rw[aH (fun z=>by rw[z,h0] at q;cases q)];exact I.base.tups b xs q
 ·rw[aH (fun z=>by rw[z,h0] at q;cases q)];exact I.base.frzs b o' u q
 ·rw[aH (fun z=>by rw[z,h0] at q;cases q)];exact I.base.tbls b ps q
def Nv (H₀:Hp)(t:TE):TE:=fun σ H Q=>t σ H fun v H'=>∃ a o kvs k0,H' a=some (.frz o (.dK kvs))∧H₀ a=some (.dK k0)∧Q v (upd H' a (.dK kvs))
theorem wY {e:Expr}{t:TE}(h:PE X e t):PE X e (Nv X.H₀ t):=by
 intro pins s σ H Q I hw;refine thn (h pins s σ H _ I hw) fun v s1 ⟨x,H1,I1,r1,a,o,kvs,k0,ha,h0,q⟩=>?_
 exact⟨x,_,I1.thawD ha h0,r1,q⟩
end
section
variable {X:Cx}
theorem En:dX X (.builtin "len") (fun xs H Q=>∃ a kvs,xs=[V.ref a]∧Rd H a (.dK kvs)∧Q (.int kvs.length) H):=by
 intro pins s σ H xs us Q I r h;obtain⟨a,kvs,rfl,ha,q⟩:=h;obtain⟨u,rfl,ru⟩:=fE r;cases ru;exact Mj I ha fun t s' I'=>⟨.int kvs.length,H,I',⟨t,rfl⟩,q⟩
end
theorem Jh {a:Addr}{o:Obj}{kvs:List (Key×V)}{g:TG}{tb:TS}{D:kU}{σ:St}{H:Hp}(Pv:Nat->St->Hp->Prop)(h0:Pv 0 σ H)(hl:∀ i σ H,i<=kvs.length->Pv i σ H->H a=some (.frz o (.dK kvs)))
  (hs:∀ i kv σ H,kvs[i]?=some kv->Pv i σ H->g (kV kv.1) σ H fun σ2 H2=>tb { D with nx:=Pv (i+1),ct:=Pv (i+1),bk:=D.nx } σ2 H2) (hd:∀ σ H,Pv kvs.length σ H->D.nx σ H) :
  ∃ W:Nat->Nat->St->Hp->Prop,(∃ m,W 0 m σ H)∧∀ i m σ H,W i m σ H ->
   ((Itk a o kvs).stop i H∧D.nx σ H)∨((Itk a o kvs).go i H∧∃ N:St->Hp->Prop,(∀ σ' H',N σ' H'->∃ m',m'<m∧W (i+1) m' σ' H')∧∀ x H',(Itk a o kvs).yld i H x H'->g x σ H' fun σ2 H2=>tb { D with nx:=N,ct:=N,bk:=D.nx } σ2 H2):=by
 refine⟨fun i m σ H=>m=kvs.length-i∧i<=kvs.length∧Pv i σ H,⟨kvs.length,by simp,bi _,h0⟩,?_⟩;rintro i m σ H ⟨rfl,hi,p⟩;have hA:=hl i σ H hi p;by_cases hlt:i<kvs.length
 ·refine .inr ⟨⟨hA,hlt⟩,Pv (i+1),fun σ' H' p'=>⟨kvs.length-(i+1),by omega,rfl,hlt,p'⟩,fun x H' hy=>?_⟩
  obtain⟨rfl,kv,e,rfl⟩:=hy;exact hs i kv σ _ e p
 ·have e:i=kvs.length:=by omega
  subst e;exact .inl ⟨⟨hA,af _⟩,hd σ H p⟩
open PySem.Spec
structure pK (N N':List Str)(sc scope:Scope)(x:Str):Prop where
 kind:scope.kind = .function
 cell:scope.names.filter (fun y=>y.2 == .cell)=[(x,.cell)]
 names:∀ y∈scope.names,y.2 = .local->scope.names.lookup y.1=some .local
 var:scope.names.lookup x=some .cell
 ok:∀ y∈scope.names,y.2 = .free->(y.1≠x∧(sc.names.lookup y.1=some .cell∨sc.names.lookup y.1=some .free))
 hd:N'[0]?=some x
 len:N'.length=N.length+1
 sub:∀ i,i<N.length->N'[i+1]?=N[i]?∨(N'[i+1]?.map fun y=>scope.names.lookup y)=some none
 noe:scope.names.lookup ("" : Str)=none
 nol:∀ y∈N'.tail,scope.names.lookup y≠some .local∧scope.names.lookup y≠some .cell
 nd:N'.Nodup
theorem mM:∀ (names:List (Str×NameKind)) (n:Nat) (acc:List (Str×Addr)),names.filter (fun y=>y.2 == .cell)=[]->cellsFrom n names acc=acc
 | [],_,_,_=>rfl
 | (y,k)::r,n,acc,h=>by
  rw[du] at h;unfold cellsFrom;by_cases hk:(k==NameKind.cell)=true
  ·rw[if_pos hk] at h
   cases h
  ·rw[if_neg hk] at h
   rw[if_neg hk];exact mM r n acc h
theorem lD {x:Str}:∀ (names:List (Str×NameKind)) (n:Nat) (acc:List (Str×Addr)),names.filter (fun y=>y.2 == .cell)=[(x,.cell)]->cellsFrom n names acc=(x,n)::acc
 | [],_,_,h=>by cases h
 | (y,k)::r,n,acc,h=>by
  rw[du] at h;unfold cellsFrom;by_cases hk:(k==NameKind.cell)=true
  ·rw[if_pos hk] at h
   obtain⟨h1,h2⟩:=jl h;rw[if_pos hk,mM r _ _ h2];cases h1;rfl
  ·rw[if_neg hk] at h
   rw[if_neg hk];exact lD r n acc h
theorem mO:∀ (names:List (Str×NameKind)) (h:Heap),names.filter (fun y=>y.2 == .cell)=[]->pushCells h names=h
 | [],_,_=>rfl
 | (y,k)::r,h0,h=>by
  rw[du] at h;unfold pushCells;by_cases hk:(k==NameKind.cell)=true
  ·rw[if_pos hk] at h
   cases h
  ·rw[if_neg hk] at h
   rw[if_neg hk];exact mO r h0 h
theorem lC {x:Str}:∀ (names:List (Str×NameKind)) (h:Heap),names.filter (fun y=>y.2 == .cell)=[(x,.cell)]->pushCells h names=h.push { cls:=.type "cell",data:=.cell none }
 | [],_,h=>by cases h
 | (y,k)::r,h0,h=>by
  rw[du] at h;unfold pushCells;by_cases hk:(k==NameKind.cell)=true
  ·rw[if_pos hk] at h
   obtain⟨h1,h2⟩:=jl h;rw[if_pos hk,mO r _ h2]
  ·rw[if_neg hk] at h
   rw[if_neg hk];exact lC r h0 h
section
variable {M:Model}{A:Around}{E:Value->Shared->Prop}{s:Shared}
theorem lO {scope:Scope}{x:Str}{globals:Addr}{closure:List (Str×Addr)}{qual:Str}{func:Option Addr}{code:Value}{outer:Env}{builtins:Addr}{Q:Env->Shared->Prop}(hc:scope.names.filter (fun y=>y.2 == .cell)=[(x,.cell)])
  (hQ:Q (newEnv scope s.heap.objs.size globals ((x,s.heap.objs.size+1)::closure) qual func code (some outer) builtins) { s with heap:=(s.heap.push { cls:=.type "dict",data:=.dict #[] }).push { cls:=.type "cell",data:=.cell none } }) :
  wpAny M A (newFunctionEnv scope globals closure [] qual func code (some outer) builtins) Q E s:=by
 simp only [newFunctionEnv,pz,if_true];refine wpAny_bind (wpAny_alloc ?_);refine wpAny_bind (wpAny_layCells _ (fun name kind cells=>by cases hkc:kind==NameKind.cell <;> simp[hkc]) _ _ _ _ ?_);rw[show ({ s with heap:=s.heap.push { cls:=.type "dict",data:=.dict #[] } }:Shared).heap.objs.size=s.heap.objs.size+1 from Heap.size_push ..]
 rw[lD _ _ _ hc,lC _ _ hc];refine wpAny_bind (wpAny_pure ?_);exact wpAny_pure hQ
end
abbrev dZ (X:Cx)(x:Str)(N':List Str)(scope:Scope)(cl:List (Str×Addr))(C:Addr)(s:Shared)(H:Hp)(fp:List Addr):Cx :=
 { X with env:=compEnvC scope cl C X.env,N:=N',s₀:=s,H₀:=H,outer:=X.stack,stack:=X.stack,ex:=fp,fn:=fun y=>y==x,xe:=fun _ _=>False }
theorem Ha {x:Str}{c:Addr}{cl:List (Str×Addr)}:gd x ((x,c)::cl)=some c:=by
 rw[ft,beq_self_eq_true]
theorem vY {x y:Str}{c:Addr}{cl:List (Str×Addr)}(h:y≠x):gd y ((x,c)::cl)=gd y cl:=by
 rw[ft,beq_false_of_ne h]
section
variable {X:Cx}{N':List Str}{scope:Scope}{x:Str}{px:Pos}{elt iter:Expr}{cds:List Expr}{pos:Pos}{te:TE}{tc:TT}{wi:TI}
theorem yM (S:pK X.N N' X.env.scope scope x)(hc:X.calm=true)(ht:∀ cl C s H fp,PTL (dZ X x N' scope cl C s H fp) cds tc)(he:∀ cl C s H fp,PE (dZ X x N' scope cl C s H fp) elt te)
  {pins:List (Addr×Obj)} {σ:St} {H:Hp} {s:Shared} {Q:VK} {E:Value->Shared->Prop} {RR:Value->Addr->Result->Shared->Prop} {it:Addr} {fp:List Addr} {tn:Nat->Heap->Prop} {J:It}
  (I:Inv X pins σ H s) (T:pQ X.prog X.w X.K (.Name x px) J fp it tn) (st:tn 0 s.heap) (f2:∀ b∈fp,kI X pins H b)
  (hw:eJ tc te σ Q J H)
  (hRR:∀ D C s' H',Inv X pins σ H' s'->(∃ m,s'.heap.Ns C m)->C≠X.env.locals->(∀ y c,X.env.cells.lookup y=some c->c≠C)->H' C=none->X.s₀.heap.objs.size<=C->(∀ p∈X.pn++pins,p.1≠C)->Q (.ref D) H'->RR (.ref D) C (.ok .next) s') :
  ∃ cl,closureFor scope X.env=pure cl∧wpAny (model X.prog X.w) X.A (newList []) (fun acc s₃=>wpAny (model X.prog X.w) X.A (newFunctionEnv scope X.env.globals cl [] X.env.qual none .none (some X.env)) (fun cenv s₄ =>
   codeAny (model X.prog X.w) X.A (.compStart (.ListComp elt [⟨.Name x px,iter,cds,0⟩] scope pos) 0 (.ref it) acc { cenv with scope:=relabel scope X.env }) (RR acc cenv.locals) s₄) E s₃) E s:=by
 have hfree:∀ z∈scope.names,z.2 = .free->∃ c,X.env.cells.lookup z.1=some c:=fun z hz hk=>by
  rcases (S.ok z hz hk).2 with q | q
  ·exact I.ok.has z.1 (.inl q)
  ·exact I.ok.has z.1 (.inr q)
 refine⟨_,fC hfree,?_⟩;have clS:∀ y c,(cR X.env.cells scope.names []).lookup y=some c->X.env.cells.lookup y=some c:=fun y c=>iO scope.names [] hfree fun q=>by cases q
 generalize hcl:cR X.env.cells scope.names []=cl at clS;have clH:∀ y,scope.names.lookup y=some .free->∃ c,cl.lookup y=some c:=fun y hy=>by
  rw[<- hcl];exact mD scope.names [] (cT hy)
 refine wpAny_newObj_type (lO S.cell ?_);have I3:Inv X pins σ (upd H s.heap.objs.size (.lst [])) { s with heap:=s.heap.push { cls:=.type "list",data:=.seq ([]:List Value).toArray } }:=I.lnew (t':=s.toks) .nil (bi _)
 obtain⟨W,⟨m0,w0⟩,turn⟩:=hw s.heap.objs.size I.fresh
 dsimp only
 generalize hs3:({ s with heap:=s.heap.push { cls:=.type "list",data:=.seq ([]:List Value).toArray } }:Shared)=s3 at I3
 have hh3:s3.heap=s.heap.push { cls:=.type "list",data:=.seq ([]:List Value).toArray }:=by rw[<- hs3]
 have hsz3:s3.heap.objs.size=s.heap.objs.size+1:=by rw[hh3,Heap.size_push]
 rw[<- hh3];generalize hh₁:(s3.heap.push { cls:=.type "dict",data:=.dict #[] }).push { cls:=.type "cell",data:=.cell none }=h₁
 have old:∀ b o,s3.heap.get? b=some o->h₁.get? b=some o:=fun b o e=>by rw[<- hh₁];exact Heap.get?_push_of_some _ (Heap.get?_push_of_some _ e)
 have old0:∀ b o,s.heap.get? b=some o->h₁.get? b=some o:=fun b o e=>old b o (by rw[hh3];exact Heap.get?_push_of_some _ e)
 have hns₁:h₁.Ns s3.heap.objs.size fun _=>none:=by rw[<- hh₁];exact (Heap.Ns.new s3.heap (.type "dict")).keeps fun b o e=>Heap.get?_push_of_some _ e
 have hzp:(s3.heap.push { cls:=.type "dict",data:=.dict #[] }).objs.size=s3.heap.objs.size+1:=Heap.size_push ..
 have hce:h₁.IsCell (s3.heap.objs.size+1) none:=⟨_,by rw[<- hh₁,<- hzp];exact Heap.get?_push_size _ rfl,rfl⟩;have CneL:s3.heap.objs.size≠X.env.locals:=fu I3.lt;have CneC:∀ y c,X.env.cells.lookup y=some c->c<s3.heap.objs.size:=fun y c e=>by
  obtain⟨v,q⟩:=I3.cell y c e;exact q.lt
 have CneP:∀ p∈X.pn++pins,p.1<s3.heap.objs.size:=fun p hp=>Heap.lt_size (I3.pin p hp).1
 have fpLt:∀ b∈fp,b<s3.heap.objs.size:=fun b hb=>by
  obtain⟨o,e,_⟩:=T.obj 0 s.heap st b hb;rw[hsz3];exact d6 (Heap.lt_size e)
 have fpD:∀ b∈fp,b≠s.heap.objs.size:=fun b hb=>by
  obtain⟨o,e,_⟩:=T.obj 0 s.heap st b hb;exact ay (Heap.lt_size e)
 generalize hC1:s3.heap.objs.size+1=C1 at hce hzp;have C1gt:s3.heap.objs.size<C1:=by rw[<- hC1];exact gu _
 have cases':∀ y c,gd y ((x,C1)::cl)=some c->(y=x∧c=C1)∨(y≠x∧cl.lookup y=some c):=fun y c e=>by
  by_cases hy:y=x
  ·subst hy
   rw[Ha] at e;exact .inl ⟨rfl,(a5 e).symm⟩
  ·rw[vY hy] at e
   exact .inr ⟨hy,e⟩
 have ltC1:∀ y c,cl.lookup y=some c->c<s3.heap.objs.size:=fun y c e=>CneC y c (clS y c e)
 have ok':(dZ X x N' scope ((x,C1)::cl) s3.heap.objs.size s3 (upd H s.heap.objs.size (.lst [])) fp).Ok:=by
  refine⟨I3.ok.mod,?_,I3.ok.glob,I3.ok.blt,af _,fun y z c h1 h2=>?_,fun y hy=>?_,fun y c hf e=>?_,I3.ok.hd,I3.ok.frames,.inl rfl,fun b hb=>⟨ay (fpLt b hb),fun y c e=>?_⟩,
   fun b o e=>I3.bs b o e,a7 I3.ok.bsz I3.sz,fun b o e hb=>?_,fun b hb z=>?_,I3.stack,I3.stkFree⟩
  ·show (relabel scope X.env).kind = .function
   exact S.kind
  ·rcases cases' y c h1 with ⟨e1,e2⟩ | ⟨n1,e1⟩
   ·rcases cases' z c h2 with ⟨e3,e4⟩ | ⟨n3,e3⟩
    ·rw[e1,e3]
    ·exact absurd (ltC1 z c e3) (by rw[e2];exact kr.mpr (dv C1gt))
   ·rcases cases' z c h2 with ⟨e3,e4⟩ | ⟨n3,e3⟩
    ·exact absurd (ltC1 y c e1) (by rw[e4];exact kr.mpr (dv C1gt))
    ·exact I3.ok.inj y z c (clS y c e1) (clS z c e3)
  ·by_cases hyx:y=x
   ·subst hyx
    exact⟨C1,Ha⟩
   have hy':(relabel scope X.env).names.lookup y=some .cell∨(relabel scope X.env).names.lookup y=some .free:=hy;rw[bE] at hy'
   cases q:scope.names.lookup y with
   | none=>rw[q] at hy';rcases hy' with z | z <;> cases z
   | some k =>
    have hm:=cT q
    cases k with
    | free =>
     obtain⟨c,hc'⟩:=clH y q;exact⟨c,(vY hyx).trans hc'⟩
    | cell =>
     have:(y,NameKind.cell)∈scope.names.filter (fun y=>y.2 == .cell):=cf.mpr ⟨hm,rfl⟩
     rw[S.cell] at this;exact absurd (congrArg Prod.fst (aq.mp this)) hyx
    | «local» => rw[q] at hy';rcases hy' with z | z <;> simp at z
    | globalExplicit=>rw[q] at hy';rcases hy' with z | z <;> simp at z
    | globalImplicit=>rw[q] at hy';rcases hy' with z | z <;> simp at z
  ·have hyx:y=x:=by simpa using hf
   rcases cases' y c e with ⟨_,e2⟩ | ⟨n1,_⟩
   ·rw[e2];exact dv C1gt
   ·exact absurd hyx n1
  ·rcases cases' y c e with ⟨_,e2⟩ | ⟨n1,e1⟩
   ·rw[e2];exact fun z=>absurd (fpLt b hb) (by rw[<- z];exact kr.mpr (dv C1gt))
   ·exact (f2 b hb).2.2.2.2.1 y c (clS y c e1)
  ·rcases (f2 b hb).2.2.2.1 with z | z
   ·exact I.ok.noex b o e z
   ·exact absurd (bj (Heap.lt_size e) (a7 I.ok.bsz z)) (dz _)
  ·rcases au.mp (I3.stkSub b z) with q | q
   ·exact (f2 b hb).2.1 q
   ·exact (f2 b hb).2.2.1 q
 have fpOk':∀ {H':Hp},(∀ b∈fp,H' b=none)->∀ b∈fp,kI (dZ X x N' scope ((x,C1)::cl) s3.heap.objs.size s3 (upd H s.heap.objs.size (.lst [])) fp) pins H' b:=fun hn b hb =>
  ⟨hn b hb,ay (fpLt b hb),fun z=>by
   rcases au.mp (I3.stkSub b z) with q | q
   ·exact (f2 b hb).2.1 q
   ·exact (f2 b hb).2.2.1 q,.inl hb,fun y c e=>by
   rcases cases' y c e with ⟨_,e2⟩ | ⟨n1,e1⟩
   ·rw[e2];exact fun z=>absurd (fpLt b hb) (by rw[<- z];exact kr.mpr (dv C1gt))
   ·exact (f2 b hb).2.2.2.2.1 y c (clS y c e1),(f2 b hb).2.2.2.2.2⟩
 have I4:Inv (dZ X x N' scope ((x,C1)::cl) s3.heap.objs.size s3 (upd H s.heap.objs.size (.lst [])) fp) pins (none::σ) (upd H s.heap.objs.size (.lst [])) { s3 with heap:=h₁ }:=by
  refine⟨ok',rfl,I3.bare,Un.kept old,⟨_,hns₁,fun i y v e1 e2 vis=>?_⟩,fun y c e=>?_,?_,fun y c e=>?_,fun p hp=>?_,I3.hok.kept old,?_⟩
  ·cases i with
   | zero=>cases e2
   | succ i =>
    have e2':σ[i]?=some (some v):=by simpa using e2
    have hi:i<X.N.length:=by rw[<- I3.len];exact (al.mp e2').1
    have vis':(relabel scope X.env).names.lookup y=some .local∨(relabel scope X.env).names.lookup y=some .cell∨(relabel scope X.env).names.lookup y=some .free:=vis;have e1':N'[i+1]?=some y:=e1;rcases S.sub i hi with q | q
    ·rw[e1'] at q
     have hy:X.N[i]?=some y:=q.symm;have hmem:y∈N'.tail:=by
      rw[kc];exact⟨i,by rw[js];exact e1'⟩
     have hfr:scope.names.lookup y=some .free:=by
      rw[bE] at vis'
      cases q2:scope.names.lookup y with
      | none=>rw[q2] at vis';rcases vis' with z | z | z <;> cases z
      | some k =>
       cases k with
       | free=>rfl
       | cell=>exact absurd q2 (S.nol y hmem).2
       | «local» => exact absurd q2 (S.nol y hmem).1
       | globalExplicit=>rw[q2] at vis';rcases vis' with z | z | z <;> simp at z
       | globalImplicit=>rw[q2] at vis';rcases vis' with z | z | z <;> simp at z
     have hyx:y≠x:=fun z=>by rw[z,S.var] at hfr;cases hfr
     have hok:=(S.ok (y,.free) (cT hfr) rfl).2;obtain⟨m,hn,hl⟩:=I3.loc;have visX:Vis X.env.scope y:=by
      rcases hok with z | z
      ·exact .inr (.inl z)
      ·exact .inr (.inr z)
     obtain⟨u,r,l⟩:=hl i y v hy e2' visX;refine⟨u,r,.inr ⟨?_,?_⟩⟩
     ·show (relabel scope X.env).names.lookup y=some .cell∨(relabel scope X.env).names.lookup y=some .free
      rw[bE,hfr,gk];by_cases hcnd:(NameKind.free==NameKind.free&&X.env.scope.kind == .function&&X.env.kindOf y==some .cell)=true
      ·left
       rw[if_pos hcnd]
      ·right
       rw[if_neg hcnd]
     ·rcases l with ⟨k,_⟩ | ⟨k,c,e,z⟩
      ·have k':X.env.scope.names.lookup y=some .local:=k
       have hok':X.env.scope.names.lookup y=some .cell∨X.env.scope.names.lookup y=some .free:=hok;rw[k'] at hok';rcases hok' with z | z <;> cases z
      ·obtain⟨c',e'⟩:=clH y hfr
       have e3:=clS y c' e';rw[e] at e3;cases e3;obtain⟨o,ho,hd⟩:=z;exact⟨c,(vY hyx).trans e',o,old c o ho,hd⟩
    ·rw[e1'] at q
     have q:scope.names.lookup y=none:=a5 q;rw[bE,q] at vis';rcases vis' with z | z | z <;> cases z
  ·rcases cases' y c e with ⟨_,e2⟩ | ⟨n1,e1⟩
   ·exact⟨none,by rw[e2];exact hce⟩
   ·obtain⟨v,o,ho,hd⟩:=I3.cell y c (clS y c e1)
    exact⟨v,o,old c o ho,hd⟩
  ·show upd H s.heap.objs.size (.lst []) s3.heap.objs.size=none
   exact I3.hok.fresh (af _)
  ·rcases cases' y c e with ⟨_,e2⟩ | ⟨n1,e1⟩
   ·rw[e2];exact I3.hok.fresh (dv C1gt)
   ·exact I3.freeC y c (clS y c e1)
  ·obtain⟨e,n,ne,nf,d⟩:=I3.pin p hp
   refine⟨old _ _ e,n,ay (CneP p hp),fun z=>?_,d⟩;rcases au.mp (I3.stkSub p.1 z) with q | q
   ·exact ne q
   ·exact nf q
  ·show (none::σ).length=N'.length
   rw[S.len,aw,I3.len]
 have st4:tn 0 h₁:=T.keep 0 s.heap h₁ st fun b _ o e=>old0 b o e
 have hvar:Loc (relabel scope X.env) x:=by
  right;show (relabel scope X.env).names.lookup x=some .cell;rw[bE,S.var,gk];rfl
 have loop:∀ s₄:Shared,s₄ = { s3 with heap:=h₁ } ->
   codeAny (model X.prog X.w) X.A (.compLoop (.ListComp elt [⟨.Name x px,iter,cds,0⟩] scope pos) 0 (.ref it) (.ref s.heap.objs.size) (compEnvC scope ((x,C1)::cl) s3.heap.objs.size X.env)) (RR (.ref s.heap.objs.size) s3.heap.objs.size) s₄:=by
  rintro s₄ rfl;refine fS (fun n s'=>∃ i v0 ys H',Inv (dZ X x N' scope ((x,C1)::cl) s3.heap.objs.size s3 (upd H s.heap.objs.size (.lst [])) fp) pins (v0::σ) H' s'∧tn i s'.heap∧(∀ b∈fp,H' b=none)∧W i n ys H') ?_ m0
   ⟨0,none,[],_,I4,st4,fun b hb=>by rw[aH (fpD b hb)];exact (f2 b hb).1,w0⟩
  rintro n s5 ⟨i,v0,ys,H5,I5,st5,fr5,w5⟩;rcases turn i n ys H5 w5 with ⟨stop,qn⟩ | ⟨go,hz,N,hN,Nn,hNn,step⟩
  ·refine thn (T.done (dZ X x N' scope ((x,C1)::cl) s3.heap.objs.size s3 (upd H s.heap.objs.size (.lst [])) fp) rfl rfl rfl hc i pins s5 (v0::σ) H5 (fun _ _=>False) I5 (fpOk' fr5) st5 stop) fun r s6 ⟨hr,I6⟩=>?_
   subst hr;have hch:∀ b∈fp,(b∈X.ex∨X.s₀.heap.objs.size<=b)∧b≠X.env.locals∧(∀ x c,X.env.cells.lookup x=some c->c≠b)∧∀ p∈X.pn++pins,p.1≠b:=fun b hb =>
    ⟨(f2 b hb).2.2.2.1,(f2 b hb).2.1,(f2 b hb).2.2.2.2.1,(f2 b hb).2.2.2.2.2⟩
   have I7:Inv X pins σ H5 s6:=I3.call' (ch:=fp) I6.os I6.base I6.hok I6.bare hch;obtain⟨m,hm,_⟩:=I6.loc;exact hRR s.heap.objs.size s3.heap.objs.size s6 H5 I7 ⟨m,hm⟩ CneL (fun y c e=>ay (CneC y c e)) I6.free (a7 I3.sz (af _)) (fun p hp=>ay (CneP p hp)) qn
  ·refine thn (T.item (dZ X x N' scope ((x,C1)::cl) s3.heap.objs.size s3 (upd H s.heap.objs.size (.lst [])) fp) rfl rfl rfl hc i pins s5 (v0::σ) H5 (fun _ _=>False) I5 (fpOk' fr5) st5 go) fun r s6 ⟨u,hr,h6⟩=>?_
   subst hr;refine thn h6 fun _ s7 ⟨y,H7,I7,r7,y7,st7,fr7⟩=>?_
   have I7':=I7.pinned (fpOk' fr7) (T.obj _ _ st7);refine wpAny_assign_Name (mG (i:=0) (v:=y) I7' S.nd S.hd hvar r7 (fun s8 I8=>?_) (.inl (beq_self_eq_true x)));have I8':Inv (dZ X x N' scope ((x,C1)::cl) s3.heap.objs.size s3 (upd H s.heap.objs.size (.lst [])) fp) (pins++jZ fp s7.heap) (some y::σ) H7 s8:=I8;refine thn (ht _ s3.heap.objs.size s3 (upd H s.heap.objs.size (.lst [])) fp _ s8 (some y::σ) H7 (fun b H''=>if b=true then te (some y::σ) H'' N else Nn H'') I8' (step y H7 y7)) fun okb s8 ⟨H8,I8,q8⟩=>?_
   cases okb with
   | false =>
    have q8':Nn H8:=by simpa using q8
    obtain⟨m',hm,w9⟩:=hNn H8 q8';refine⟨m',hm,i+1,some y,ys,_,I8.unpinned,T.keep _ _ _ st7 fun b hb o e=>(I8.pin (b,o) (av _ (av _ (cO hb e)))).1,fun b hb=>?_,w9⟩;obtain⟨o,e,d⟩:=T.obj _ _ st7 b hb;exact (I8.pin (b,o) (av _ (av _ (cO hb e)))).2.1
   | true =>
    refine thn (he _ s3.heap.objs.size s3 (upd H s.heap.objs.size (.lst [])) fp _ s8 (some y::σ) H8 N I8 (by simpa using q8)) fun w s9 ⟨v,H9,I9,r9,q9⟩=>?_
    obtain⟨hD9,m',hm,w9⟩:=hN v H9 q9;refine thn (cL _ s9 (some y::σ) H9 (.ref s.heap.objs.size) [v] (.ref s.heap.objs.size) [w] (fun z H10=>z = .non∧H10=upd H9 s.heap.objs.size (.lst (ys++[v]))) I9 rfl (.cons r9 .nil) ⟨s.heap.objs.size,ys,v,rfl,rfl,hD9,hz,rfl,rfl⟩) fun _ s10 ⟨z,H10,I10,_,ez,e10⟩=>?_
    subst e10;refine⟨m',hm,i+1,some y,ys++[v],_,I10.unpinned,T.keep _ _ _ st7 fun b hb o e=>(I10.pin (b,o) (av _ (av _ (cO hb e)))).1,fun b hb=>?_,w9⟩;obtain⟨o,e,d⟩:=T.obj _ _ st7 b hb;exact (I10.pin (b,o) (av _ (av _ (cO hb e)))).2.1
 exact codeAny_compStart_list (loop _ (by rw[<- hs3])) (T.self X.A 0 _ _ _ st4 (loop _ (by rw[<- hs3])))
theorem Cp {at':St->VK->It->Hp->Prop}(S:pK X.N N' X.env.scope scope x)(hc:X.calm=true)(hi:PI X (.Name x px) iter wi)(ht:∀ cl C s H fp,PTL (dZ X x N' scope cl C s H fp) cds tc)(he:∀ cl C s H fp,PE (dZ X x N' scope cl C s H fp) elt te)(cv:∀ σ Q J H,at' σ Q J H->eJ tc te σ Q J H)
  (hs:∀ x,foldedSetIterable iter X.env x=pure x:=by intro _;rfl):PE X (.ListComp elt [⟨.Name x px,iter,cds,0⟩] scope pos) (fun σ H Q=>wi σ H (at' σ Q)):=by
 intro pins s σ H Q I h;rw[eval_ListComp];have hfree:∀ z∈scope.names,z.2 = .free->∃ c,X.env.cells.lookup z.1=some c:=fun z hz hk=>by
  rcases (S.ok z hz hk).2 with q | q
  ·exact I.ok.has z.1 (.inl q)
  ·exact I.ok.has z.1 (.inr q)
 refine wpAny_comprehension_free (use:=none) rfl hs (fC hfree) S.kind S.names (thn (hi pins s σ H _ I h) fun xv s1 h1=>thn h1 fun itv s2 h2=>?_);obtain⟨it,fp,tn,J,H2,e,I2,T,st2,f2,hw⟩:=h2;subst e;obtain⟨cl,hcl,hrun⟩:=yM (tc:=tc) (cds:=cds) (elt:=elt) (iter:=iter) (pos:=pos) (px:=px) (E:=X.xe) (RR:=fun acc C=>compPost (model X.prog X.w) X.A X.xe none (EP X pins σ Q) acc C) S hc ht he I2 T st2 f2 (cv _ _ _ _ hw) (fun D C s' H' I' ⟨m,hm⟩ n1 n2 n3 n4 n5 q =>
  ⟨m,hm,fun h' hsb=>⟨.ref D,H',I'.turned (it:=C) (t':=s'.toks) (fun b o hb e=>(hsb.2 b hb).trans e) n3 n1 (.inr n4) n2 n5,rfl,q⟩⟩)
 have ecl:(pure (cR X.env.cells scope.names []):Sem (List (Str×Addr)))=pure cl:=(fC hfree).symm.trans hcl;have ecl':cR X.env.cells scope.names []=cl:=by
  injection ecl
 rw[ecl'];exact hrun
end
theorem yV {outer inner:Scope}(h:∀ y∈inner.names,y.2 = .free->outer.names.lookup y.1=some .cell∨outer.names.lookup y.1=some .free)(env:Env):∀ y∈inner.names,y.2 = .free->(relabel outer env).names.lookup y.1=some .cell∨(relabel outer env).names.lookup y.1=some .free:=fun y hy hk=>by
 rw[bE];rcases h y hy hk with z | z
 ·left
  rw[z,gk];rfl
 ·rw[z,gk]
  by_cases hcnd:(NameKind.free==NameKind.free&&env.scope.kind == .function&&env.kindOf y.1==some .cell)=true
  ·left
   rw[if_pos hcnd]
  ·right
   rw[if_neg hcnd]
section
variable {X:Cx}
theorem tF {pins:List (Addr×Obj)}{σ:St}{H:Hp}{s:Shared}{A:Around}(I:Inv X pins σ H s)(hu:A.units<cLine){D F:Addr}{ls:List (List Nat)}(h1:SqL X.K H D (ls.map T))(h2:SqL X.K H F (ls.map T)):SeqAt.EqAt A s (.ref D) (.ref F) true:=by
 by_cases hne:D=F
 ·subst hne
  exact SeqAt.EqAt.same _
 obtain⟨its,r,pl,_⟩:=I.list h1;obtain⟨its2,r2,pl2,_⟩:=I.list h2;have l1:=r.length;have l2:=r2.length;have z:=SeqAt.EqAt.of_refs hne (SeqAt.RcAt.lists (A:=A) (s:=s) (e:=fun _=>true) pl.isList pl2.isList (by rw[ao,ao];omega) hu fun j g1 g2=>?_)
 ·rw[show (cu its.toArray.size).all (fun _=>true)=true by simp] at z
  exact z
 ·have hj:j<ls.length:=by
   rw[aR] at l1;rw[ao] at g1;omega
  obtain⟨u',e1,q1⟩:=r.get (i:=j) (x:=T ls[j]) (by rw[aj,aa hj];rfl);obtain⟨w',e2,q2⟩:=r2.get (i:=j) (x:=T ls[j]) (by rw[aj,aa hj];rfl);have e:=zR (A:=A.in1) (s:=s) q1 q2 rfl rfl;rw[show eqV (T ls[j]) (T ls[j])=true from by show (tx ls[j]==tx ls[j])=true;rw[beq_iff_eq]] at e;have a1:its.toArray[j]=u':=by
   rw[h9];exact (al.mp e1).2
  have a2:its2.toArray[j]=w':=by
   rw[h9];exact (al.mp e2).2
  rw[a1,a2];exact e
end
section
variable {X:Cx}{N':List Str}{scope:Scope}{x:Str}{px:Pos}{elt iter cd:Expr}{pos:Pos}{te:TE}{tc:TT}{wi:TI}
theorem Ei (S:pK X.N N' X.env.scope scope x)(hc:X.calm=true)(hi:PI X (.Name x px) iter wi)(ht:∀ cl C s H fp,PT (dZ X x N' scope cl C s H fp) cd tc)(he:∀ cl C s H fp,PE (dZ X x N' scope cl C s H fp) elt te)
  (hs:∀ x,foldedSetIterable iter X.env x=pure x:=by intro _;rfl):PE X (.ListComp elt [⟨.Name x px,iter,[cd],0⟩] scope pos) (Ag wi tc te) :=
 Cp (at':=fun σ Q=>eJ tc te σ Q) S hc hi (fun _ _ _ _ _=>vA (ht _ _ _ _ _)) he (fun _ _ _ _ h=>h) hs
end
theorem Pi {J:It}{vs:List V}{tc:TT}{te:TE}{σ:St}{H:Hp}{Q:VK}(p:V->Bool)(g:V->List V)(rd:jS J H vs)(hn:vs.length<=sizeLine)
  (ht:∀ x H',x∈vs->aM H H'->∀ N:Bool->Hp->Prop,(∀ H'',aM H' H''->N (p x) H'')->tc (some x::σ) H' N)
  (he:∀ x H',x∈vs->p x=true->aM H H'->∀ N:V->Hp->Prop,(∀ c H'',aM H' H''->H' c=none->H'' c=some (.lst (g x))->N (.ref c) H'')->te (some x::σ) H' N)
  (hq:∀ D bs H',H D=none->aM H H'->H' D=some (.lst (bs.map V.ref))->Dt.R2 (fun v b=>b≠D∧H b=none∧H' b=some (.lst (g v))) (vs.filter p) bs->Q (.ref D) H'):eJ tc te σ Q J H:=by
 intro D hD;refine⟨fun i m ys H2=>m=vs.length-i∧i<=vs.length∧aM H H2∧H2 D=some (.lst ys)∧∃ bs:List Addr,ys=bs.map V.ref∧Dt.R2 (fun v b=>b≠D∧H b=none∧H2 b=some (.lst (g v))) ((vs.take i).filter p) bs,⟨vs.length,rfl,bi _,fun b o e=>?_,aB,[],rfl,.nil⟩,?_⟩
 ·rw[aH (aK e hD)]
  exact e
 ·rintro i m ys H2 ⟨rfl,hi,hs,hd,bs,rfl,hb⟩
  by_cases hlt:i<vs.length
  ·have hx:vs[i]?=some vs[i]:=aa hlt
   have hbl:bs.length<=i:=by have:=hb.len;have:=jD p vs i;omega
   refine .inr ⟨rd.go i H2 hs hlt,by rw[aR];omega,fun v H'=>p vs[i]=true∧aM H2 H'∧∃ c,v = .ref c∧c≠D∧H c=none∧H' c=some (.lst (g vs[i])),fun v H' ⟨hp,hs',c,ev,hcD,hcn,hc⟩=>⟨hs' D _ hd,vs.length-(i+1),by omega,rfl,hlt,fun b o e=>?kp,aB,bs++[c],?app,?la⟩,
    fun H'=>p vs[i]=false∧aM H2 H',fun H' ⟨hp,hs'⟩=>⟨vs.length-(i+1),by omega,rfl,hlt,fun b o e=>hs' b o (hs b o e),hs' D _ hd,bs,rfl,?skp⟩,fun y H' hy=>?stp⟩
   case app =>
    rw[ev,ax];rfl
   case kp =>
    rw[aH (aK e hD)];exact hs' b o (hs b o e)
   case la =>
    rw[gN p vs i _ hx,hp];refine Dt.R2.snoc (hb.mono fun v b _ ⟨h1,h0,h2⟩=>⟨h1,h0,by rw[aH h1];exact hs' b _ h2⟩) ⟨hcD,hcn,by rw[aH hcD];exact hc⟩
   case skp =>
    rw[gN p vs i _ hx,hp];rw[show (if false=true then [vs[i]] else [])=[] from rfl,dy];exact hb.mono fun v b _ ⟨h1,h0,h2⟩=>⟨h1,h0,hs' b _ h2⟩
   case stp =>
    obtain⟨rfl,e2⟩:=rd.yl i H2 y H' hs hy;have e4:y=vs[i]:=by rw[hx] at e2;exact (a5 e2).symm
    subst e4;refine ht _ _ (b6 hlt) hs _ fun H'' h''=>?_
    by_cases hp:p vs[i]=true
    ·rw[if_pos hp]
     refine he _ _ (b6 hlt) hp (hs.trans h'') _ fun c H3 h3 hc1 hc2=>⟨hp,h''.trans h3,c,rfl,fun z=>?_,?_,hc2⟩
     ·rw[z,h'' D _ hd] at hc1;cases hc1
     ·cases e:H c with
      | none=>rfl
      | some o=>rw[h'' c o (hs c o e)] at hc1;cases hc1
    ·rw[if_neg hp]
     exact⟨by simpa using hp,h''⟩
  ·have e:i=vs.length:=by omega
   subst e;rw[bv] at hb;exact .inl ⟨rd.st H2 hs,hq D bs H2 hD hs hd hb⟩
end L2
namespace L2
open PySem PyProof.Rows
def SqA (K:ac)(H:Hp)(a:Addr)(xs:List V):Prop:=SqL K H a xs∨SqT K H a xs
theorem SqA.on {K:ac}{H H':Hp}{a:Addr}{xs:List V}(h:SqA K H a xs)(s:aM H H'):SqA K H' a xs:=h.elim (fun h=>.inl (s.seq h)) fun h=>.inr (xK s h)
def iSq (K:ac)(tl:TE):TI:=fun σ H R=>tl σ H fun x H1=>∃ a xs H0,x = .ref a∧SqA K H0 a xs∧aM H0 H1∧∀ J,jS J H0 xs->R J H1
section
variable {X:Cx}{tg:Expr}
theorem Pg {l:Expr}{tl:TE}(hl:PE X l tl):PI X tg l (iSq X.K tl):=by
 intro pins s σ H R I h;refine thn (hl pins s σ H _ I h) fun v s1 ⟨x,H1,I1,r1,q1⟩=>?_
 obtain⟨a,xs,H0,e,hq0 | hq0,s0,q0⟩:=q1
 ·have hq:=s0.seq hq0
  have q:=q0 _ (cF hq0);subst e;cases r1;obtain⟨its,rv,p,hz⟩:=I1.list hq;refine wpAny_pyIter_list p.isList ?_;refine⟨s1.heap.objs.size,[s1.heap.objs.size],_,_,H1,rfl,I1.kept (t':=s1.toks) fun b o e=>Heap.get?_push_of_some _ e,tJ a _,⟨_,Heap.get?_push_size _ rfl,rfl,rfl⟩,fun b hb=>?_,q⟩;have e:b=s1.heap.objs.size:=by simpa using hb
  subst e;exact I1.fpOk (af _) (I1.hok.fresh (af _))
 ·have hq:=xK s0 hq0
  have q:=q0 _ (iA hq0);subst e;cases r1;obtain⟨its,rv,p,hz⟩:=I1.tuple hq;refine wpAny_pyIter_tuple (show s1.heap.IsTuple a its.toArray from p) ?_;refine⟨s1.heap.objs.size,[s1.heap.objs.size],_,_,H1,rfl,I1.kept (t':=s1.toks) fun b o e=>Heap.get?_push_of_some _ e,qT a _,⟨_,Heap.get?_push_size _ rfl,rfl,rfl⟩,fun b hb=>?_,q⟩;have e:b=s1.heap.objs.size:=by simpa using hb
  subst e;exact I1.fpOk (af _) (I1.hok.fresh (af _))
theorem vJ (K:ac)(hK:X.K=K){l:Expr}{tl:TE}(hl:PE X l tl):PI X tg l (iSq K tl):=by
 subst hK;exact Pg hl
end
theorem Dx {J:It}{H0:Hp}{vs:List V}{g:TG}{tb:TS}{D:kU}{σ:St}{H:Hp}(rd:jS J H0 vs)(Pv:Nat->St->Hp->Prop)(h0:Pv 0 σ H)(hl:∀ i σ H,i<=vs.length->Pv i σ H->aM H0 H)
  (hs:∀ i x σ H,vs[i]?=some x->Pv i σ H->g x σ H fun σ2 H2=>tb { D with nx:=Pv (i+1),ct:=Pv (i+1),bk:=D.nx } σ2 H2) (hd:∀ σ H,Pv vs.length σ H->D.nx σ H) :
  ∃ W:Nat->Nat->St->Hp->Prop,(∃ m,W 0 m σ H)∧∀ i m σ H,W i m σ H ->
   (J.stop i H∧D.nx σ H)∨(J.go i H∧∃ N:St->Hp->Prop,(∀ σ' H',N σ' H'->∃ m',m'<m∧W (i+1) m' σ' H')∧∀ x H',J.yld i H x H'->g x σ H' fun σ2 H2=>tb { D with nx:=N,ct:=N,bk:=D.nx } σ2 H2):=by
 refine⟨fun i m σ H=>m=vs.length-i∧i<=vs.length∧Pv i σ H,⟨vs.length,by simp,bi _,h0⟩,?_⟩;rintro i m σ H ⟨rfl,hi,p⟩;have hA:=hl i σ H hi p;by_cases hlt:i<vs.length
 ·refine .inr ⟨rd.go i H hA hlt,Pv (i+1),fun σ' H' p'=>⟨vs.length-(i+1),by omega,rfl,hlt,p'⟩,fun x H' hy=>?_⟩
  obtain⟨rfl,e⟩:=rd.yl i H x H' hA hy;exact hs i x σ _ e p
 ·have e:i=vs.length:=by omega
  subst e;exact .inl ⟨rd.st H hA,hd σ H p⟩
open PySem.Spec
section
variable {X:Cx}
theorem qP {pins:List (Addr×Obj)}{σ:St}{H:Hp}{s:Shared}{v:Value}{ls:List (List Nat)}{Q:VK}(h64:ls.length<64)
  (hc:∀ (A':Around) (Q':List Value->Shared->Prop),A'.handled=X.A.handled->(∀ (vs:List Value) (ss:List Str) (s1:Shared),StrsAre vs ss->ss.Perm (ls.map tx)->Inv X pins σ H s1->Q' vs s1)->wpAny (model X.prog X.w) A' (collect v) Q' X.xe s)
  (q:∀ (ms:List (List Nat)) (D:Addr),H D=none->ms.Perm ls->ms.Pairwise (fun a b=>¬ b<a)->Q (.ref D) (upd H D (.lst (ms.map T)))) :
  wpAny (model X.prog X.w) X.A (call (.builtin "sorted") [v]) (EP X pins σ Q) X.xe s:=by
 have hz:ls.length<=sizeLine:=by rw[sizeLine_eq];omega
 refine Calls.call_function_entry kind_sorted plain_sorted entry_sorted (args_sorted1 _) ?_;unfold Builtin.«sorted»;refine wpAny_bind (m:=checkCount "sorted" 1 1 _) (wpAny_pure (wpAny_bind (hc _ _ (by simp) fun vs ss s1 hS hp I1=>wpAny_bind (wpAny_newList ?_ (by rw[hS.length,hp.length_eq,aR];exact hz)))))
 have e2:(s1.heap.push (seqObj "list" vs.toArray 0)).get? s1.heap.objs.size=some (seqObj "list" vs.toArray 0):=Heap.get?_push_size _ rfl
 have hvl:vs.length=ls.length:=by rw[hS.length,hp.length_eq,aR]
 show wpAny _ _ _ _ _ { s1 with heap:=s1.heap.push (seqObj "list" vs.toArray 0) }
 have key:∀ (out:Array Value) (ss':List Str),StrsAre out.toList ss'->ss'.Perm ss->sortedS ss'=true->EP X pins σ Q (.ref s1.heap.objs.size) { s1 with heap:=sortedHeap (s1.heap.push (seqObj "list" vs.toArray 0)) s1.heap.objs.size vs out }:=fun out ss' b1 b2 b3=>by
  obtain⟨e,he⟩:=sortedHeap_at (out:=out) e2;have em:(ss'.map fun x=>x.cps.toList).map tx=ss':=by
   rw[bf]
   conv=>rhs;rw[<- g9 ss']
   exact bb fun x _=>iN x
  have hp':(ss'.map fun x=>x.cps.toList).Perm ls:=by
   have y:=(b2.trans hp).map fun x=>x.cps.toList
   rw[bf,show (fun x=>x.cps.toList)∘tx=id from funext cZ,g9] at y;exact y
  refine⟨.ref _,_,I1.laid (t':=s1.toks) (fun b o eo=>?_) (af _) (o:=.lst ((ss'.map fun x=>x.cps.toList).map T)) ⟨?_,out.toList,e,nQ b1,by simpa using he⟩,rfl,q _ _ (I1.hok.fresh (af _)) hp' (tH _ (by rw[em];exact b3))⟩
  ·have hlt:=Heap.lt_size eo
   rw[sortedHeap_old (ay hlt) (by rw[size_push'];exact d6 hlt)];exact Heap.get?_push_of_some _ eo
  ·rw[aR,hp'.length_eq]
   exact hz
 refine wpAny_bind (wpAny_holding (wpAny_call_entry slot_list_sort ⟨_,e2,rfl⟩ entry_list_sort (list_sort_treeK strKind_oneLt e2 hS.keysOf (fun v1 v2 r e=>?_) (by omega) fun st' a1 a2=>⟨_,rfl,wpAny_pure ⟨_,rfl,?_⟩⟩) (args_list_sort _)))
 ·have hS2:=hS
  rw[e] at hS2;exact keyKind_strs hS2
 ·obtain⟨ss',b1,b2,b3⟩:=sorted_out_str hS a1 a2
  exact key _ ss' b1 b2 b3
theorem lE (hc:X.calm=true):dX X (.builtin "sorted") (fun xs H Q=>∃ (p:Addr) (ls:List (List Nat)),xs=[.ref p]∧H p=some (kW X.w p ls)∧ls.length<64∧∀ (ms:List (List Nat)) (D:Addr),H D=none->ms.Perm ls->ms.Pairwise (fun a b=>¬ b<a)->Q (.ref D) (upd H D (.lst (ms.map T)))):=by
 intro pins s σ H xs us Q I r h;obtain⟨p,ls,rfl,hq,hz,q⟩:=h;obtain⟨u,rfl,ru⟩:=fE r;cases ru;have hs:sizeLine=16777216:=sizeLine_eq;refine qP hz (fun A' Q' hA hQ=>SS.zX (by rw[hA];exact I.ok.hd hc) (uO I hq) (by rw[aR];omega) fun s' vs ss kp g1 g2 e1 e2=>hQ vs ss s' e1 e2 ?_) q;have hg:AllBare s'.gens:=by rw[g1];exact I.bare
 exact I.call' (ch:=[]) g2 (Un.kept kp) (I.hok.kept kp) hg fun _ z=>nomatch z
theorem gX (hc:X.calm=true):dX X (.builtin "sorted") (fun xs H Q=>∃ (p:Addr) (ls:List (List Nat)) (kvs:List (Key×V)),xs=[.ref p]∧H p=some (.dK kvs)∧kvs.map (·.1)=ls.map (fun t=>bx (tx t))∧ls.length<64∧∀ (ms:List (List Nat)) (D:Addr),H D=none->ms.Perm ls->ms.Pairwise (fun a b=>¬ b<a)->Q (.ref D) (upd H D (.lst (ms.map T)))):=by
 intro pins s σ H xs us Q I r h;obtain⟨p,ls,kvs,rfl,hq,hk,h64,q⟩:=h;obtain⟨u,rfl,ru⟩:=fE r;cases ru;obtain⟨z,hd,vs,rel,dd⟩:=qQ I.hok hq;obtain⟨o,es,ep,rest⟩:=dd;have hl:ls.length=kvs.length:=by have:=congrArg ge hk;simpa using this.symm
 refine qP h64 (fun A' Q' hA hQ=>SS.wU (vs:=vs) (ep:=ep) (by rw[hA];exact I.ok.hd hc) hd ⟨o,es,rest⟩ (by rw[<- rel.length];exact z) fun s' acc kp g1 g2 e1=>hQ _ (ls.map tx) s' (tD hk rel e1) (l9 _) ?_) q;have hg:AllBare s'.gens:=by rw[g1];exact I.bare
 exact I.call' (ch:=[]) g2 (Un.kept kp) (I.hok.kept kp) hg fun _ z=>nomatch z
end
end L2
namespace SN
open PySem PyProof.Rows SS
def lV:Value->Int
 | .int x _=>x
 | _=>0
def El (w:World)(e:Int×Value):Prop:=e.1=hashInt (lV e.2)∧∃ t,e.2 = .int (lV e.2) t
def Els (w:World)(es:List (Int×Value))(ms:List Int):Prop:=(∀ e∈es,El w e)∧(es.map fun e=>lV e.2).Perm ms
def Rs (t:SetTable):Prop:=(∀ i j,i<j->j<t.place.size->t.place.getD i 0<t.place.getD j 0)∧t.dummies = #[]
def Is (w:World)(h:Heap)(a:Addr)(ms:List Int):Prop :=
 ∃ o es ep t,h.get? a=some o∧o.ExactSet∧o.data = .set es ep t∧Els w es.toList ms∧ms.Nodup∧es.size<scanBound∧t.fits es.size=true∧(byT w=true∨t.led=true)∧Rs t
section
variable {prog:Program}{w:World}{A:Around}{E:Value->Shared->Prop}{s:Shared}
end
end SN
namespace L2
open PySem PySem.Spec PyProof.Rows
namespace SEN
def Of (w:World)(h:Heap)(D:Addr)(ls:List Int)(i:Nat):Prop:=∃ ms,SN.Is w h D ms∧(∀ x,x∈ms↔x∈ls.take i)∧ms.length<=i
section
variable {prog:Program}{w:World}{A:Around}{R:Result->Shared->Prop}{J:Addr}{fp wr:List Addr}{G:Array GenState->Array GenState->Prop}{n:Nat}{P:Nat->Value->Prop}{St:Nat->Shared->Prop}
variable {E:Value->Shared->Prop}{s:Shared}
end
end SEN
section
variable {X:Cx}
end
end L2
namespace L2
open PySem PyProof.Rows
section
variable {X:Cx}
end
open PySem.Spec
section
variable {X:Cx}
theorem Ee (hc:X.calm=true):dX X (.builtin "all") (fun xs H Q=>∃ (p:Addr) (bs:List Bool),xs=[.ref p]∧SqL X.K H p (bs.map V.bl)∧Q (.bl (bs.all id)) H):=by
 intro pins s σ H xs us Q I r h;obtain⟨p,bs,rfl,hq,q⟩:=h;obtain⟨u,rfl,ru⟩:=fE r;cases ru;obtain⟨its,rv,pl,_⟩:=I.list hq;have hlen:=rv.length;rw[aR] at hlen;have hat:∀ (i:Nat) (v:Value),its.toArray[i]?=some v->v = .bool (bs.getD i false):=fun i v e=>by
  have hi:i<bs.length:=by
   have:=(Array.getElem?_eq_some_iff.mp e).1
   rw[ao] at this;omega
  obtain⟨w',e1,q1⟩:=rv.get (i:=i) (x:=.bl bs[i]) (by rw[aj,aa hi];rfl);rw[kf,e1] at e;obtain rfl:=a5 e;rw[ah,aa hi];exact q1
 have hall:(cu its.toArray.size).all (fun i=>bs.getD i false)=bs.all id:=by
  rw[ao,<- hlen,ci,dh,dh];constructor
  ·intro h b hb
   obtain⟨i,hi⟩:=fb hb;have hil:=(al.mp hi).1
   have:=h i (de.mpr hil)
   rw[ah,hi] at this;exact this
  ·intro h i hi
   have hil:=de.mp hi;rw[ah,aa hil];exact h _ (b6 hil)
 have hne:p≠s.heap.objs.size:=by
  obtain⟨o,ho,_⟩:=id pl.isList;exact ay (Heap.lt_size ho)
 refine call_all_walk (wpAny_pyIter_list pl.isList ⟨s.heap.objs.size,[s.heap.objs.size,p],[s.heap.objs.size],its.toArray.size,_,_,fun i=>bs.getD i false,rfl,Walks.list (A:=X.A.in1) (show X.A.in1.handled=none from I.ok.hd hc) s.heap.objs.size p hne its.toArray,⟨⟨_,Heap.get?_push_size _ rfl,rfl,rfl⟩,pl.isList.at fun o e=>Heap.get?_push_of_some _ e⟩,?_,fun h' tk hk=>?_⟩)
 ·intro i v s' Q' E' hP hQ
  rw[hat i v hP];exact wpAny_truthy_bool hQ
 ·rw[hall]
  exact⟨.bl _,H,I.kept (fun b o e=>hk b o (by simp;exact ay (Heap.lt_size e)) (Heap.get?_push_of_some _ e)),rfl,q⟩
end
end L2
namespace L2
open PySem
section
variable {X:Cx}
theorem Qq {st:Stmt}{t t':TS}(h:PS X st t)(hw:∀ (D:kU) (σ:St) (H:Hp),t' D σ H->t D σ H):PS X st t':=fun pins s σ H D I q=>h pins s σ H D I (hw D σ H q)
end
open PyProof.Rows
section
variable {X:Cx}
end
open PySem.Spec
section
variable {X:Cx}
theorem Ie (K:ac)(hK:X.K=K)(hu:X.A.units<cLine):OpR X (compareOp .NotEq) (fun x y H Q=>∃ (p b:Addr) (ys:List V),x = .ref p∧y = .ref b∧SqL K H p ys∧SqL K H b []∧Q (.bl (!ys.isEmpty)) H):=by
 subst hK;intro pins s σ H x y v u Q I rx ry h;obtain⟨p,b,ys,rfl,rfl,h1,h2,q⟩:=h;cases rx;cases ry;obtain⟨its,r,pl,_⟩:=I.list h1;obtain⟨its2,r2,pl2,_⟩:=I.list h2;have l1:=r.length;have l2:=r2.length
 cases ys with
 | nil =>
  have e1:its=[]:=cj.mp l1.symm;have e2:its2=[]:=cj.mp l2.symm;subst e1 e2;refine SeqAt.RcNeAt.lists (e:=fun _=>true) pl.isList pl2.isList rfl hu (fun j g1 g2=>absurd g1 (by simp)) _ _ _ _ ?_;exact⟨.bl _,H,I,rfl,q⟩
 | cons y ys =>
  refine SeqAt.RcNeAt.lists_lengths pl.isList pl2.isList (by rw[ao,ao,bne_iff_ne];simp only [aw,lh] at l1 l2;omega) hu _ _ _ _ ?_;exact⟨.bl _,H,I,rfl,q⟩
end
end L2
namespace LT
open PySem PyProof.Rows L2
theorem qF:entryFor table "list.__eq__.loop" = some Builtin.«list.__eq__.loop» := by kernel_rfl
theorem iY:plainId "list.__eq__.loop" = true:=by decide +kernel
section
variable {prog:Program}{w:World}{A:Around}{R:Result->Shared->Prop}{s:Shared}{l b:Addr}{its jts:Array Value}
end
section
variable {X:Cx}
end
end LT
namespace L2
open PySem PyProof.Rows PySem.Spec
section
variable {X:Cx}{e:Expr}{ta:TE}{f:Str}{pos:Pos}
theorem Ly (K:ac)(h:X.K=K)(he:PE X e ta)(hb:attributeBase e f X.env (eval e X.env)=eval e X.env):PE X (.Attribute e f pos) (Ro K ta f):=by subst h;exact rC he hb
end
section
variable {X:Cx}
end
end L2
set_option autoImplicit false
namespace SR
open PySem PyProof.Rows PySem.Spec
section
variable {prog:Program}{w:World}{A:Around}{E:Value->Shared->Prop}{s:Shared}{z:Array Keyed}{κ:KeyKind}{kd:SortKind}
theorem Kg {st:SortSt}{m:Nat}{Q:Option Nat->SortSt->Prop}(hO:LtR prog w A E s κ kd)(hz:KeysOf κ z)(hm:m<=z.size)(h1:1<=m)(hB:SB kd z st)(hu:Up κ (arrOf st) 0 m)(h:Q (some m) st):wpS (model prog w) A E s (countRun' 0 m) Q st:=by
 rw[countRun'_eq];refine wpS_bind (m:=upL 0 1 m) (Tt hO hz (by omega) (af 1) h1 hB Pm fun n hn1 hn2 _ hor=>?_);obtain rfl:n=m:=by
  rcases hor with e | e
  ·exact e
  ·by_cases hnm:n=m
   ·exact hnm
   ·have h2:κ.blt (KK κ (arrOf st) (0+n)) (KK κ (arrOf st) (0+n-1))=false:=hu (0+n-1) (0+n) (by omega) (by omega) (by omega)
    have h3:κ.blt (KK κ (arrOf st) (0+n)) (KK κ (arrOf st) (0+n-1))=true:=e;rw[h2] at h3;cases h3
 dsimp only
 rw[if_pos (by simp)];exact wpS_pure h
theorem Gk {st:SortSt}{n:Nat}{Q:Bool->SortSt->Prop}(h1:1<=n)(h:Q true st):wpS (model prog w) A E s (binarySort' 0 n n) Q st:=by
 rw[binarySort'_eq];refine wpS_bind (wpS_mono (wpS_forRange (I:=fun k c st'=>c=(none,())∧st'=st) (Q:=fun c st'=>c=(none,())∧st'=st) ?sp (fun _ _ hh=>hh) ⟨rfl,rfl⟩) ?po)
 case po =>
  rintro c st' ⟨rfl,rfl⟩;exact wpS_pure h
 case sp =>
  intro x c st' g1 g2 _;omega
theorem Rv {st:SortSt}{Q:Unit->SortSt->Prop}(hO:LtR prog w A E s κ kd)(hz:KeysOf κ z)(hB:SB kd z st)(hp:pendingOf st = #[])(h2:2<=z.size)(hu:Up κ (arrOf st) 0 z.size)
  (h:∀ st',SB kd z st'->Up κ (arrOf st') 0 z.size->Q () st'):wpS (model prog w) A E s sortRuns' Q st:=by
 rw[sortRuns'_eq];refine wpS_bind (wpS_get ?_)
 dsimp only
 simp only [hB.sz];generalize minRun' z.size z.size 0=mr;refine wpS_bind (wpS_mono (wpS_forRange
  (I:=fun x c st'=>(x=0∧c=(none,0)∧st'=st)∨(c=(none,z.size)∧SB kd z st'∧Up κ (arrOf st') 0 z.size∧(pendingOf st').size<=1))
  (Q:=fun c st'=>c=(none,z.size)∧SB kd z st'∧Up κ (arrOf st') 0 z.size∧(pendingOf st').size<=1) ?sp ?fi (.inl ⟨rfl,rfl,rfl⟩)) ?po)
 case fi =>
  rintro c st' (⟨h0,_⟩ | hh)
  ·omega
  ·exact hh
 case sp =>
  rintro x c st1 _ hx (⟨rfl,rfl,rfl⟩ | ⟨rfl,b1,b2,b3⟩)
  ·dsimp only
   rw[if_neg (by omega),jh];refine wpS_bind (Kg hO hz (af _) (by omega) hB hu ?_)
   dsimp only
   by_cases hlt:z.size<mr
   case' pos =>
    rw[if_pos hlt];refine wpS_bind (wpS_lift (wpAny_rule ⟨rfl,?_⟩));rw[show min z.size mr=z.size by omega];refine wpS_bind (Gk (by omega) ?_);simp only [ky,cm,if_false]
   case' neg =>
    rw[if_neg hlt]
   all_goals
    refine wpS_bind (wpS_get ?_);rw[hp];refine wpS_bind (wpS_modify (wpS_pure (.inr ⟨by rw[jy],⟨hB.prm,hB.knd,hB.ffl⟩,hu,?_⟩)));show ((pendingOf st1).push (0,z.size,0)).size<=1;rw[hp];exact af _
  ·dsimp only
   rw[if_pos (af _)];exact wpS_pure ⟨rfl,b1,b2,b3⟩
 case po =>
  rintro c st1 ⟨rfl,b1,b2,b3⟩
  dsimp only
  refine wpS_bind (wpS_mono (wpS_forRange (I:=fun x c st'=>c=(none,())∧SB kd z st'∧Up κ (arrOf st') 0 z.size∧(pendingOf st').size<=1)
   (Q:=fun c st'=>c=(none,())∧SB kd z st'∧Up κ (arrOf st') 0 z.size∧(pendingOf st').size<=1) ?fsp (fun _ _ hh=>hh) ⟨rfl,b1,b2,b3⟩) ?fpo)
  case fsp =>
   rintro x c st2 _ hx ⟨rfl,c1,c2,c3⟩;refine wpS_bind (wpS_get ?_);rw[if_pos c3];exact wpS_pure ⟨rfl,c1,c2,c3⟩
  case fpo =>
   rintro c st2 ⟨rfl,c1,c2,c3⟩
   dsimp only
   exact wpS_pure (h st2 c1 c2)
end
section
variable {prog:Program}{w:World}{A:Around}{E:Value->Shared->Prop}{s:Shared}
theorem Je {κ:KeyKind}{kd:SortKind}{l:Addr}{vs:List Value}{n:Nat}{P:Fin->Shared->Prop}(ob:s.heap.get? l=some (seqObj "list" vs.toArray n))(hks:KeysOf κ (pairsOf vs))(hup:Up κ (pairsOf vs) 0 (pairsOf vs).size)
  (hO:∀ E (s':Shared),(∀ a o,a≠l->s.heap.get? a=some o->s'.heap.get? a=some o)->LtR prog w A E s' κ kd)
  (hkk:∀ A E (s':Shared) (Q:SortKind->Shared->Prop),2<=vs.length->(∀ a o,a≠l->s.heap.get? a=some o->s'.heap.get? a=some o)->Q kd s'->wpAny (model prog w) A (keyKind' vs.toArray) Q E s') (hmx:vs.length<=sizeLine)
  (h:∀ st':SortSt,(arrOf st').Perm (pairsOf vs)->SortedToK κ (arrOf st') (pairsOf vs).size->P (.done (.ret .none)) { s with heap:=sortedHeap s.heap l vs ((arrOf st').map (·.2)) }) :
  wpAny (model prog w) A (Builtin.«list.sort» ⟨[.ref l],[]⟩) P E s:=by
 rw[list_sort_plain];have hlt:l<s.heap.objs.size:=Heap.lt_size ob;have hsz:vs.toArray.size=vs.length:=by simp
 refine wpAny_bind (listItems_at ob rfl (wpAny_bind (listUpdate_at ob rfl ?_ (hsz:=by rw[hsz];exact hmx))));obtain⟨ep,ob1⟩:∃ ep,(s.heap.update l (Obj.mapSeq fun _=>#[])).get? l=some (seqObj "list" #[] ep):=⟨_,get?_update_seq ob (fun _=>#[])⟩
 refine wpAny_bind (seqEpoch_at ob1 rfl (wpAny_bind (wpAny_newTuple (wpAny_bind (wpAny_newList (wpAny_holding ?_))))));have ob2:(((s.heap.update l (Obj.mapSeq fun _=>#[])).push (seqObj "tuple" vs.toArray 0)).push (seqObj "list" #[] 0)).get? l=some (seqObj "list" #[] ep) :=
  Heap.get?_push_of_some _ (Heap.get?_push_of_some _ ob1)
 show wpAny (model prog w) A _ P E { s with heap:=((s.heap.update l (Obj.mapSeq fun _=>#[])).push (seqObj "tuple" vs.toArray 0)).push (seqObj "list" #[] 0) }
 dsimp only
 by_cases hnb:vs.toArray.size<2
 ·rw[if_pos hnb,if_pos hnb]
  refine wpAny_bind (wpAny_pure ?_);rw[StateT.run_pure];refine wpAny_bind (wpAny_pure ?_);dsimp only;refine wpAny_bind (seqEpoch_at ob2 rfl (wpAny_bind (listUpdate_at ob2 rfl ?_ (hsz2:=?_))))
  ·simp only [bne_self_eq_false,cm,if_false]
   refine wpAny_pure (h (SortSt.mk' general' (vs.toArray.zip vs.toArray) #[] 7 none) (ro _) fun i j hij hj=>?_);obtain rfl:i=j:=by rw[pairsOf_size] at hj;omega
   exact KeyOrd.kle_refl _
  ·rw[jc];show (pairsOf vs).size<=_;rw[pairsOf_size];rw[sizeLine_eq];omega
 rw[if_neg hnb,if_neg hnb];have hag:∀ a o,a≠l->s.heap.get? a=some o->(((s.heap.update l (Obj.mapSeq fun _=>#[])).push (seqObj "tuple" vs.toArray 0)).push (seqObj "list" #[] 0)).get? a=some o:=fun a o na ha =>
  Heap.get?_push_of_some _ (Heap.get?_push_of_some _ (by rw[Heap.get?_update_ne _ _ _ _ na];exact ha))
 refine wpAny_bind (hkk _ _ _ _ (by omega) hag (wpAny_bind (wpAny_mono (Rv (κ:=κ) (hO _ _ hag) (z:=pairsOf vs) (st:=SortSt.mk' kd (vs.toArray.zip vs.toArray) #[] 7 none)
  (Q:=fun _ st'=>SB kd (pairsOf vs) st'∧Up κ (arrOf st') 0 (pairsOf vs).size) hks ⟨ro _,rfl,rfl⟩ rfl (by rw[pairsOf_size];omega) hup fun st' a1 a2=>⟨a1,a2⟩) ?_ fun _ _ e=>e)))
 rintro⟨⟨⟩,st'⟩ s' ⟨rfl,hB,hu⟩
 dsimp only
 have hpm:=hB.prm;refine wpAny_bind (seqEpoch_at ob2 rfl (wpAny_bind (listUpdate_at ob2 rfl ?_ (hsz2:=?_))))
 ·rw[hB.ffl]
  simp only [bne_self_eq_false,cm,if_false];exact wpAny_pure (h st' hpm fun i j hij hj=>hu i j (bi _) hij hj)
 ·refine a7 (lm ((jc ..).trans (hpm.size_eq.trans (pairsOf_size _)))) ?_
  rw[sizeLine_eq] at hmx ⊢;omega
theorem wW {κ:KeyKind}{kd:SortKind}{l:Addr}{vs:List Value}{Q:Value->Shared->Prop}(hl:s.heap.IsList l vs.toArray)(hks:KeysOf κ (pairsOf vs))(hup:Up κ (pairsOf vs) 0 (pairsOf vs).size)
  (hO:∀ E (s':Shared),(∀ a o,s.heap.get? a=some o->s'.heap.get? a=some o)->LtR prog w A.in1.in1 E s' κ kd)
  (hkk:∀ A E (s':Shared) (Q:SortKind->Shared->Prop),2<=vs.length->(∀ a o,s.heap.get? a=some o->s'.heap.get? a=some o)->Q kd s'->wpAny (model prog w) A (keyKind' vs.toArray) Q E s') (hmx:vs.length<=sizeLine)
  (h:∀ st':SortSt,(arrOf st').Perm (pairsOf vs)->SortedToK κ (arrOf st') (pairsOf vs).size->Q (.ref (s.heap.objs.size+1)) { s with heap:=sortedAll s.heap vs ((arrOf st').map (·.2)) }) :
  wpAny (model prog w) A (call (.builtin "sorted") [.ref l]) Q E s:=by
 refine Calls.call_function_entry kind_sorted plain_sorted entry_sorted (args_sorted1 _) ?_;unfold Builtin.«sorted»;refine wpAny_bind (m:=checkCount "sorted" 1 1 _) (wpAny_pure (wpAny_bind (collect_list hl (wpAny_bind (wpAny_newList ?_)) (hsz:=by simpa using hmx))))
 have e1:((s.heap.push (seqObj "list" #[] 0)).update s.heap.objs.size (Obj.mapSeq (· ++ vs.toArray))).objs.size=s.heap.objs.size+1:=by
  rw[Heap.size_update,size_push']
 have e2:(((s.heap.push (seqObj "list" #[] 0)).update s.heap.objs.size (Obj.mapSeq (· ++ vs.toArray))).push (seqObj "list" vs.toArray 0)).get? (s.heap.objs.size+1)=some (seqObj "list" vs.toArray 0):=by
  conv=>lhs;rw[<- e1]
  exact Heap.get?_push_size _ rfl
 have e3:∀ a o,s.heap.get? a=some o->a≠s.heap.objs.size+1∧(((s.heap.push (seqObj "list" #[] 0)).update s.heap.objs.size (Obj.mapSeq (· ++ vs.toArray))).push (seqObj "list" vs.toArray 0)).get? a=some o:=fun a o ha =>
  have hlt:a<s.heap.objs.size:=Heap.lt_size ha
  ⟨ay (d6 hlt),Heap.get?_push_of_some _ (by rw[Heap.get?_update_ne _ _ _ _ (ay hlt)];exact Heap.get?_push_of_some _ ha)⟩
 show wpAny _ _ _ _ _ { s with heap:=((s.heap.push (seqObj "list" #[] 0)).update s.heap.objs.size (Obj.mapSeq (· ++ vs.toArray))).push (seqObj "list" vs.toArray 0) }
 rw[e1];refine wpAny_bind (wpAny_holding (wpAny_call_entry slot_list_sort ⟨_,e2,rfl⟩ entry_list_sort (Je e2 hks hup (fun E s' hs=>hO E s' fun a o ha=>hs a o (e3 a o ha).1 (e3 a o ha).2) (fun A E s' Q h2 hs=>hkk A E s' Q h2 fun a o ha=>hs a o (e3 a o ha).1 (e3 a o ha).2) hmx fun st' a1 a2=>⟨_,rfl,wpAny_pure ⟨_,rfl,?_⟩⟩) (args_list_sort _)));exact h st' a1 a2
end
end SR
set_option autoImplicit false
namespace LT
open PySem PyProof.Rows L2 SR
section
variable {prog:Program}{w:World}{A:Around}{R:Result->Shared->Prop}{s:Shared}{l b:Addr}{its jts:Array Value}
theorem Rn {ls ms:List (List Nat)}(h1:s.heap.IsList l its)(h2:s.heap.IsList b jts)(l1:its.size=ls.length)(l2:jts.size=ms.length)
  (v1:∀ i (h:i<its.size),∃ t,its[i]=Value.str (tx (ls.getD i [])) t) (v2:∀ i (h:i<jts.size),∃ t,jts[i]=Value.str (tx (ms.getD i [])) t)
  (he:∀ (j:Nat) (g1:j<its.size) (g2:j<jts.size),SeqAt.EqAt A.in1 s its[j] jts[j] (decide (ls[j]?=ms[j]?))) :
  ∀ (xs ys:List (List Nat)) (i:Nat),i<=ls.length->i<=ms.length->ls.drop i=xs->ms.drop i=ys->R (.ok (.ret (.bool (decide (xs<ys))))) s->codeAny (model prog w) A (.builtin "list.__eq__.loop" ⟨[.ref l,.ref b,rawInt (i:Int),rawInt 0],[]⟩) R s:=by
 obtain⟨o1,g1,_,n1,d1⟩:=h1;obtain⟨o2,g2,_,n2,d2⟩:=h2;have dl:∀ {zs:List (List Nat)} {i:Nat} {x:List Nat} {r:List (List Nat)},zs.drop i=x::r->i<zs.length∧zs[i]?=some x∧zs.getD i []=x∧zs.drop (i+1)=r:=fun {zs i x r} h=>by
  have h0:i<zs.length:=Nat.lt_of_not_le fun z=>by rw[List.drop_eq_nil_of_le z] at h;cases h
  rw[List.drop_eq_getElem_cons h0] at h;obtain⟨e1,e2⟩:=jl h;refine⟨h0,by rw[aa h0,e1],?_,e2⟩;rw[ah,aa h0,e1];rfl
 have ends:∀ (i:Nat) (c:Bool),(its.size<=i∨jts.size<=i)->decide (its.size<jts.size)=c->R (.ok (.ret (.bool c))) s->codeAny (model prog w) A (.builtin "list.__eq__.loop" ⟨[.ref l,.ref b,rawInt (i:Int),rawInt 0],[]⟩) R s:=fun i c hi hc hR=>by
  refine codeAny_builtin qF ?_;rw[Around.under_plainId iY];refine wpAny_bind (m:=Builtin.List.listItems (.ref l)) (wpAny_listItems g1 d1 ?_);refine wpAny_bind (m:=Builtin.List.listItems (.ref b)) (wpAny_listItems g2 d2 ?_);have fin:wpAny (model prog w) A.in1 (do let m <- Builtin.List.listItems (.ref l);let n <- Builtin.List.listItems (.ref b);ret (.bool (decide (m.size<n.size)))) (fun fin s'=>match fin with | .done f=>R (.ok f) s' | .again c'=>c'.quiet=true∧codeAny (model prog w) A c' R s') (fun e s'=>R (.error e) s') s:=by
   refine wpAny_bind (m:=Builtin.List.listItems (.ref l)) (wpAny_listItems g1 d1 ?_);refine wpAny_bind (m:=Builtin.List.listItems (.ref b)) (wpAny_listItems g2 d2 ?_);rw[hc];exact wpAny_pure hR
  rcases fm i its.size with h | h
  ·have e1:its[((i:Nat):Int).toNat]?=some its[i]:=by rw[bt];exact ei h
   have e2:jts[((i:Nat):Int).toNat]?=none:=by rw[bt];exact j6 (by omega)
   rw[e1,e2];exact fin
  ·have e1:its[((i:Nat):Int).toNat]?=none:=by rw[bt];exact j6 h
   rw[e1];exact fin
 intro xs
 induction xs with
 | nil =>
  intro ys i hi1 hi2 hx hy hR;have i1:its.size<=i:=by rw[l1];exact lb.mp hx
  cases ys with
  | nil =>
   have i2:jts.size<=i:=by rw[l2];exact lb.mp hy
   exact ends i _ (.inl i1) (by rw[decide_eq_false (by omega)];exact (decide_eq_false (rq _)).symm) hR
  | cons y ys =>
   obtain⟨b1,b2,b3,b4⟩:=dl hy;exact ends i _ (.inl i1) (by rw[decide_eq_true (by omega)];exact (decide_eq_true (List.nil_lt_cons ..)).symm) hR
 | cons x xs ih =>
  intro ys i hi1 hi2 hx hy hR;obtain⟨a1,a2,a3,a4⟩:=dl hx
  cases ys with
  | nil =>
   have i2:jts.size<=i:=by rw[l2];exact lb.mp hy
   exact ends i _ (.inr i2) (by rw[decide_eq_false (by omega)];exact (decide_eq_false (rq _)).symm) hR
  | cons y ys =>
   obtain⟨b1,b2,b3,b4⟩:=dl hy;have i1:i<its.size:=by omega
   have i2:i<jts.size:=by omega
   have e1:its[((i:Nat):Int).toNat]?=some its[i]:=by rw[bt];exact ei i1
   have e2:jts[((i:Nat):Int).toNat]?=some jts[i]:=by rw[bt];exact ei i2
   refine codeAny_builtin qF ?_;rw[Around.under_plainId iY];refine wpAny_bind (m:=Builtin.List.listItems (.ref l)) (wpAny_listItems g1 d1 ?_);refine wpAny_bind (m:=Builtin.List.listItems (.ref b)) (wpAny_listItems g2 d2 ?_);rw[e1,e2];refine wpAny_bind (m:=eqBool its[i] jts[i]) (he i i1 i2 prog w _ _ ?_);rw[a2,b2];by_cases hxy:x=y
   ·subst hxy
    rw[decide_eq_true rfl];refine wpAny_pure ⟨plainId_quiet iY _,ih ys (i+1) a1 b1 a4 b4 ?_⟩;rw[show decide (xs<ys)=decide (x::xs<x::ys) from decide_eq_decide.mpr (by rw[oo];exact⟨fun h=>.inr ⟨rfl,h⟩,fun h=>h.elim (fun z=>absurd z (fo _)) fun z=>z.2⟩)];exact hR
   ·rw[decide_eq_false (fun z=>hxy (a5 z))]
    refine wpAny_bind (m:=Builtin.List.listItems (.ref l)) (wpAny_listItems g1 d1 ?_);refine wpAny_bind (m:=Builtin.List.listItems (.ref b)) (wpAny_listItems g2 d2 ?_);rw[e1,e2];obtain⟨t1,k1⟩:=v1 i i1;obtain⟨t2,k2⟩:=v2 i i2;rw[a3] at k1;rw[b3] at k2;rw[k1,k2];refine wpAny_bind (m:=richCompare .Lt (Value.str (tx x) t1) (Value.str (tx y) t2)) (richCompare_gives (op:=.Lt) (typeIs_str s _ t1) (typeIs_str s _ t2) F.slot_str_lt F.entry_str_lt (F.args_str_lt_2 _ _) (gives_str_lt _ _ t1 t2) (fun x=>nomatch x) ?_);rw[cZ,cZ];rw[show decide (x::xs<y::ys)=decide (x<y) from decide_eq_decide.mpr (by rw[oo];exact⟨fun h=>h.elim id fun z=>absurd z.1 hxy,.inl⟩)] at hR;exact wpAny_pure hR
theorem Ir {ls ms:List (List Nat)}(h1:s.heap.IsList l its)(h2:s.heap.IsList b jts)(l1:its.size=ls.length)(l2:jts.size=ms.length)
  (v1:∀ i (h:i<its.size),∃ t,its[i]=Value.str (tx (ls.getD i [])) t) (v2:∀ i (h:i<jts.size),∃ t,jts[i]=Value.str (tx (ms.getD i [])) t)
  (he:∀ (A:Around) (j:Nat) (g1:j<its.size) (g2:j<jts.size),SeqAt.EqAt A s its[j] jts[j] (decide (ls[j]?=ms[j]?))) (hu:A.units<cLine) {E:Value->Shared->Prop} {Q:Bool->Shared->Prop} (q:Q (decide (ls<ms)) s) :
  wpAny (model prog w) A (oneLt' true (.ref l) (.ref b)) Q E s:=by
 obtain⟨o1,g1,c1,n1,d1⟩:=id h1;obtain⟨o2,g2,c2,n2,d2⟩:=id h2;rw[oneLt'_eq];simp only [if_true];refine wpAny_bind (wpAny_cRoomFor hu ?_);refine wpAny_bind (wpAny_callSpecialIfBound?_slot (T := "list") ⟨_,g1,c1⟩ F.slot_list_lt (call_meets (S:=fun A R s'=>s'=s∧R (.ok (.ret (.bool (decide (ls<ms))))) s) F.slot_list_lt ⟨_,g1,c1⟩ F.entry_list_lt (F.args_list_lt_2 _ _) (fun prog w A R s' h=>?_) ⟨rfl,?_⟩))
 ·obtain⟨rfl,hR⟩:=h
  refine wpAny_bind (m:=PySem.isInstance (.ref b) (.type "list")) (wpAny_isInstance (T := "list") (b:=true) ⟨_,g2,c2⟩ (by rfl) ?_)
  refine wpAny_pure ⟨plainId_quiet iY _,?_⟩;exact Rn h1 h2 l1 l2 v1 v2 (he A.in1) ls ms 0 (bi _) (bi _) rfl rfl hR
 ·exact wpAny_truthy_bool q
end
def Qg (f:Addr->Option (List (List Nat))):Value->Option (List (List Nat))
 | .ref a=>f a
 | _=>none
@[reducible] def Nc (f:Addr->Option (List (List Nat))):KeyKind where
 α:=List (List Nat)
 blt a b:=decide (a<b)
 irrefl a:=by simpa using fo a
 trans a b c h1 h2:=by simp only [decide_eq_true_eq] at *;exact jm h1 h2
 negTrans a b c h:=by
  simp only [decide_eq_true_eq] at *;by_cases hab:a<b
  ·exact .inl hab
  ·exact .inr (List.lt_of_le_of_lt (k8.mp hab) h)
 total a b h1 h2:=by simp only [decide_eq_false_iff_not] at *;exact List.le_antisymm (k8.mp h2) (k8.mp h1)
 keyOf:=Qg f
 dflt:=[]
end LT
namespace L2
open PySem PyProof.Rows PySem.Spec SR
section
variable {X:Cx}
theorem mF {zs:List (List Nat)}{us:List Value}(r:bN (zs.map T) us)(i:Nat)(h:i<us.toArray.size):∃ t,us.toArray[i]=Value.str (tx (zs.getD i [])) t:=by
 rw[ao] at h;have hl:=r.length;rw[aR] at hl;have hi:i<zs.length:=by omega
 obtain⟨u,e,ru⟩:=r.get (i:=i) (x:=T zs[i]) (by rw[aj,aa hi];rfl);obtain⟨t,rfl⟩:=ru;refine⟨t,?_⟩;rw[h9,ah,aa hi];rw[aa h] at e;exact a5 e
theorem uY {pins:List (Addr×Obj)}{σ:St}{H:Hp}{s:Shared}(I:Inv X pins σ H s){D:Addr}{ls ms:List (List Nat)}(h1:SqL X.K H D (ls.map T))(h2:SqL X.K H D (ms.map T)):ls=ms:=by
 obtain⟨its,r,pl,_⟩:=I.list h1;obtain⟨its2,r2,pl2,_⟩:=I.list h2;have l1:=r.length;have l2:=r2.length;rw[aR] at l1 l2;obtain⟨o1,p1,_,n1,d1⟩:=pl.isList;obtain⟨o2,p2,_,n2,d2⟩:=pl2.isList;rw[p1] at p2;cases p2;rw[d1] at d2;cases d2;refine nj (by omega) fun i a1 a2=>?_
 obtain⟨t1,k1⟩:=mF r i (by rw[ao];omega);obtain⟨t2,k2⟩:=mF r2 i (by rw[ao];omega);rw[k1] at k2;have k3:tx (ls.getD i [])=tx (ms.getD i []):=by injection k2
 have k4:=congrArg (fun x:Str=>x.cps.toList) k3;simp only [cZ] at k4;rw[ah,aa a1,ah,aa a2] at k4;exact k4
theorem Ld {pins:List (Addr×Obj)}{σ:St}{H:Hp}{s:Shared}{A:Around}(I:Inv X pins σ H s)(hu:A.units<cLine){D F:Addr}{ls ms:List (List Nat)}(h1:SqL X.K H D (ls.map T))(h2:SqL X.K H F (ms.map T)):SeqAt.EqAt A s (.ref D) (.ref F) (decide (ls=ms)):=by
 obtain⟨its,r,pl,_⟩:=I.list h1;obtain⟨its2,r2,pl2,_⟩:=I.list h2;have l1:=r.length;have l2:=r2.length;rw[aR] at l1 l2;by_cases e:ls=ms
 ·subst e
  rw[decide_eq_true rfl];exact tF I hu h1 h2
 ·have hne:D≠F:=fun z=>by subst z;exact e (uY I h1 h2)
  by_cases hl:ls.length=ms.length
  ·have z:=SeqAt.EqAt.of_refs hne (SeqAt.RcAt.lists (A:=A) (s:=s) (e:=fun j=>decide (ls[j]?=ms[j]?)) pl.isList pl2.isList (by rw[ao,ao];omega) hu fun j g1 g2=>zG r r2 (by simp) (by simp))
   rw[ao,<- l1,mR hl] at z;exact z
  ·rw[decide_eq_false e]
   exact SeqAt.EqAt.of_refs hne (SeqAt.RcAt.lists_lengths pl.isList pl2.isList (by rw[ao,ao];simp;omega) hu)
theorem Nd {α β:Type}{R:α->β->Prop}:∀ {as:List α} {bs:List β},bs.length=as.length->(∀ (i:Nat) (h1:i<as.length) (h2:i<bs.length),R as[i] bs[i])->Dt.R2 R as bs
 | [],[],_,_=>.nil
 | [],_::_,h,_=>by cases h
 | _::_,[],h,_=>by cases h
 | a::as,b::bs,h,f=>.cons (f 0 (n0 _) (n0 _)) (Nd (t9 h) fun i h1 h2=>f (i+1) (nc h1) (nc h2))
def LLs (K:ac)(H:Hp)(us:List (List (List Nat)))(bs:List Addr):Prop:=Dt.R2 (fun u b=>SqL K H b (u.map T)) us bs
theorem Ec (hu:X.A.units+1<cLine):OpR X (compareOp .NotEq) (fun x y H Q=>∃ (p b:Addr) (us:List (List (List Nat))) (ps bs:List Addr),x = .ref p∧y = .ref b∧SqL X.K H p (ps.map V.ref)∧SqL X.K H b (bs.map V.ref)∧LLs X.K H us ps∧LLs X.K H us bs∧Q (.bl false) H):=by
 intro pins s σ H x y v u Q I rx ry h;obtain⟨p,b,us,ps,bs,rfl,rfl,g1,g2,r1,r2,q⟩:=h;cases rx;cases ry;obtain⟨its,r,pl,_⟩:=I.list g1;obtain⟨its2,r',pl2,_⟩:=I.list g2;obtain rfl:=iG r;obtain rfl:=iG r';have l1:=r1.len;have l2:=r2.len;refine SeqAt.RcNeAt.lists (e:=fun _=>true) pl.isList pl2.isList (by rw[ao,ao,aR,aR];omega) (j7 hu) (fun j h1 h2=>?_) _ _ _ _ ?_
 ·rw[ao,aR] at h1 h2
  obtain⟨u1,e1,s1⟩:=r1.get (aa h1);obtain⟨u2,e2,s2⟩:=r2.get (aa h2);rw[e1] at e2;cases e2;rw[h9,h9,ji,ji];exact tF I hu s1 s2
 ·rw[show (cu _).all (fun _=>true)=true by simp]
  exact⟨.bl false,H,I,rfl,q⟩
open Classical in
theorem sO (hu:X.A.units+1<cLine):OpR X (compareOp .In) (fun x y H Q=>∃ (p b:Addr) (vs:List (List Nat)) (us:List (List (List Nat))) (bs:List Addr),x = .ref p∧y = .ref b∧SqL X.K H p (vs.map T)∧SqL X.K H b (bs.map V.ref)∧LLs X.K H us bs∧Q (.bl (decide (vs∈us))) H):=by
 intro pins s σ H x y v u Q I rx ry h;obtain⟨p,b,vs,us,bs,rfl,rfl,g1,g2,r2,q⟩:=h;cases rx;cases ry;obtain⟨its2,r',pl2,_⟩:=I.list g2;obtain rfl:=iG r';have key:∀ c∈bs,∃ u∈us,SqL X.K H c (u.map T):=fun c hc=>by
  obtain⟨i,h1,rfl⟩:=ia.mp hc;obtain⟨u,e,r⟩:=r2.get (aa h1);exact⟨u,az e,r⟩
 refine SeqAt.in_listAt (fun y=>decide (∃ c∈bs,y=Value.ref c∧SqL X.K H c (vs.map T))) pl2.isList (fun y hy=>?_) ?_
 ·obtain⟨c,hc,rfl⟩:=ar.mp (by simpa using hy)
  obtain⟨u,hu1,r⟩:=key c hc;have z:=Ld (A:=X.A.in1) I hu r g1;by_cases e:u=vs
  ·subst e
   rw[decide_eq_true rfl] at z;rw[decide_eq_true ⟨c,hc,rfl,r⟩];exact z
  ·rw[decide_eq_false e] at z
   rw[decide_eq_false]
   ·exact z
   rintro⟨c',_,e',r'⟩;cases e';exact e (uY I r r')
 ·rw[show ((bs.map Value.ref).toArray.any fun y=>decide (∃ c∈bs,y=Value.ref c∧SqL X.K H c (vs.map T)))=decide (vs∈us) from ?_]
  ·exact⟨.bl _,H,I,rfl,q⟩
  rw[List.any_toArray,List.any_map,ci,iq,decide_eq_true_iff];constructor
  ·rintro⟨c,hc,h⟩
   obtain⟨c',_,e',r'⟩:=of_decide_eq_true h;cases e';obtain⟨u,hu1,r⟩:=key c hc;rw[<- uY I r r'];exact hu1
  ·intro hm
   obtain⟨i,h1,rfl⟩:=ia.mp hm;have hl:=r2.len;have h2:i<bs.length:=by omega
   obtain⟨u,e,r⟩:=r2.get (aa h2);rw[aa h1] at e;cases e;exact⟨bs[i],b6 h2,decide_eq_true ⟨_,b6 h2,rfl,r⟩⟩
open Classical in
theorem rV (hu:X.A.units+2<cLine):dX X (.builtin "sorted") (fun xs H Q=>∃ (p:Addr) (as:List Addr) (us:List (List (List Nat))),xs=[.ref p]∧SqL X.K H p (as.map V.ref)∧LLs X.K H us as∧us.Pairwise (fun a b=>a<b) ∧
  ∀ (D:Addr) (bs:List Addr),H D=none->LLs X.K H us bs->Q (.ref D) (upd H D (.lst (bs.map V.ref)))):=by
 intro pins s σ H xs us Q I r h;obtain⟨p,as,us,rfl,hq,hR,hso,q⟩:=h;obtain⟨u,rfl,ru⟩:=fE r;cases ru;obtain⟨its,rv,pl,hz⟩:=I.list hq;rw[aR] at hz;obtain rfl:=iG rv;have hl:=hR.len;have key:∀ c∈as,∃ u:List (List Nat),SqL X.K H c (u.map T):=fun c hc=>by
  obtain⟨i,h1,rfl⟩:=ia.mp hc;obtain⟨u,e,r⟩:=hR.get (aa h1);exact⟨u,r⟩
 let f:Addr->Option (List (List Nat)):=fun a=>if h:∃ u:List (List Nat),SqL X.K H a (u.map T) then some (il h) else none
 have hf:∀ {a:Addr} {u:List (List Nat)},SqL X.K H a (u.map T)->f a=some u:=fun {a u} h=>by
  have h':∃ u:List (List Nat),SqL X.K H a (u.map T):=⟨u,h⟩;show dite _ _ _=_;rw[dif_pos h',uY I (i6 h') h]
 have hf2:∀ {a:Addr} {u:List (List Nat)},f a=some u->SqL X.K H a (u.map T):=fun {a u} h=>by
  by_cases h':∃ u:List (List Nat),SqL X.K H a (u.map T)
  ·have e:f a=_:=dif_pos h'
   rw[e] at h;cases h;exact i6 h'
  ·have e:f a=_:=dif_neg h'
   rw[e] at h;cases h
 have kk:∀ {i:Nat} (h1:i<as.length),KK (LT.Nc f) (pairsOf (as.map Value.ref)) i=us.getD i []:=fun {i} h1=>by
  obtain⟨u,e,r⟩:=hR.get (aa h1);unfold KK;rw[show (pairsOf (as.map Value.ref))[i]?=some (Value.ref as[i],Value.ref as[i]) by
   show ((as.map Value.ref).toArray.zip (as.map Value.ref).toArray)[i]?=_;rw[Array.getElem?_zip_eq_some];constructor <;> simp[h1]]
  show (f as[i]).getD []=_;rw[hf r,ah,e]
 refine SR.wW (κ:=LT.Nc f) (kd:=oneType') pl.isList (fun e he=>?_) (fun i j _ hij hj=>?_) (fun E s' k=>Nr fun E x y a b Q hx hy hq=>?_) (fun A E s' Q h2 k hQ=>?_) (by rw[aR];exact hz) fun st' a1 a2=>?_
 ·rw[pairsOf_toList] at he
  obtain⟨a,ha,e1⟩:=ar.mp (mem_zip_self he).2;obtain⟨u,r⟩:=key a ha;refine⟨u,?_⟩;show LT.Qg f e.1=_;rw[<- e1];exact hf r
 ·rw[pairsOf_size,aR] at hj
  rw[kk (by omega),kk hj];by_cases e:i=j
  ·subst e
   exact KeyOrd.kle_refl _
  ·have h:=fq.mp hso i j (by omega) (by omega) (by omega)
   rw[ah,aa (by omega),ah,aa (by omega)];exact decide_eq_false fun z=>fo _ (jm h z)
 ·cases x with
  | ref c =>
   cases y with
   | ref d =>
    have hx':=hf2 (show f c=some a from hx);have hy':=hf2 (show f d=some b from hy);obtain⟨i1,r1,p1,_⟩:=I.list hx';obtain⟨i2,r2,p2,_⟩:=I.list hy';have l1:=r1.length;have l2:=r2.length;rw[aR] at l1 l2;rw[keyLt'_oneType];exact LT.Ir (p1.keeps k).isList (p2.keeps k).isList (by rw[ao];omega) (by rw[ao];omega) (mF r1) (mF r2) (fun A j g1 g2=>zG r1 r2 (by simp) (by simp)) hu hq
   | _=>cases hy
  | _=>cases hx
 ·refine PySem.W.kas_kind (T:=Value.type "list") h2 (fun v hv=>?_) (by decide) (by decide) hQ
  obtain⟨a,ha,rfl⟩:=ar.mp hv;obtain⟨u,r⟩:=key a ha;obtain⟨i1,r1,p1,_⟩:=I.list r;obtain⟨o,ho,hc,_⟩:=(p1.keeps k).isList;rw[<- hc];exact (uf ho).andThen .now
 ·obtain⟨b1,b2⟩:=SR.Mf a1 a2
  obtain⟨bs,e1,e2⟩:=SR.Eg b1;obtain⟨e,he⟩:=sortedAll_at s.heap (as.map Value.ref) ((arrOf st').map (·.2));refine⟨.ref _,_,I.laid (t':=s.toks) (fun _ _=>sortedAll_old) (gr _) (o:=.lst (bs.map V.ref)) ⟨?_,bs.map Value.ref,e,qW bs,?_⟩,rfl,q _ bs (I.hok.fresh (gr _)) ?_⟩
  ·rw[aR,e2.length_eq];exact hz
  ·rw[<- e1,Array.toArray_toList];exact he
  ·rw[e1,fk] at b2
   have g1:as.map (fun a=>(f a).getD [])=us:=by
    refine nj (by rw[aR];omega) fun i h1 h2=>?_
    obtain⟨u,e,r⟩:=hR.get (aa (show i<as.length by rw[aR] at h1;exact h1));rw[aa h2] at e;cases e;rw[ji,hf r];rfl
   have g2:bs.map (fun a=>(f a).getD [])=us:=by
    refine mn (le:=fun a b=>¬ b<a) (fun a b _ _ z1 z2=>iu a b z2 z1) ?_ (hso.imp fun h z=>fo _ (jm h z)) (g1▸e2.map _);rw[fk];exact b2.imp fun h=>of_decide_eq_false h
   have g3:bs.length=us.length:=by rw[<- g2,aR]
   refine Nd g3 fun i h1 h2=>?_
   obtain⟨u,r⟩:=key _ (e2.mem_iff.mp (b6 h2));have g4:us[i]=u:=by
    have:=congrArg (fun l=>l[i]?) g2
    simp only [aj,aa h2,aa h1,hf r] at this;have g5:=(a5 this).symm;rw[show (fun a=>(f a).getD []) bs[i]=u from by show (f bs[i]).getD []=u;rw[hf r];rfl] at g5;exact g5
   rw[g4];exact r
end
end L2
namespace K32
open PySem L2
seal L2.PSs L2.PS L2.PE L2.PA L2.PT L2.PW L2.PI L2.PG L2.PGs L2.PO L2.PTy L2.PH L2.OpR L2.dX L2.IxR L2.SlR L2.UnR L2.To
def top (i:Nat):Stmt:=mz.main.body.getD i (.Pass ⟨0,0,0,0⟩)
abbrev fO:Stmt:=top 6
abbrev nB:Stmt:=top 7
abbrev kR:Stmt:=top 8
abbrev cX:Stmt:=top 9
abbrev cG:Stmt:=top 10
abbrev fH:Stmt:=top 11
abbrev gZ:Stmt:=top 12
abbrev gD:Stmt:=top 22
abbrev fR:Stmt:=top 23
abbrev nX:Stmt:=top 24
abbrev qB:Stmt:=top 25
abbrev iQ:Stmt:=top 29
abbrev fF:Stmt:=Lg (top 30) 0
abbrev lS:Stmt:=top 31
abbrev qK:Stmt:=top 32
abbrev jW:Stmt:=top 33
abbrev uG:Stmt:=top 34
abbrev eZ:Stmt:=top 37
abbrev dW:Stmt:=top 38
abbrev gW:Stmt:=top 39
abbrev kG:Stmt:=top 40
abbrev iH:Stmt:=top 41
abbrev wC:Stmt:=top 42
abbrev pF:Stmt:=top 43
abbrev gK:Stmt:=top 45
abbrev gQ:Stmt:=top 46
abbrev eV:Stmt:=top 47
abbrev fY:Stmt:=top 48
abbrev eL:Stmt:=top 49
abbrev fD:Stmt:=top 50
abbrev jL:Stmt:=top 51
abbrev iK:Stmt:=top 52
abbrev dJ:Stmt:=top 53
abbrev gC:Stmt:=top 54
abbrev jN:Stmt:=top 55
abbrev gU:Stmt:=top 56
abbrev jE:Stmt:=top 57
theorem nV:aW ["place", "last", "times"] ["place", "last"] (aI fO):=⟨rfl,rfl,rfl,by decide +kernel,rfl,by decide +kernel,by decide +kernel⟩
theorem cM:aW ["number", "prime", "last", "rest", "last_times", "times", "quotient", "next_rest", "more_times"] ["number", "prime"] (aI nB):=⟨rfl,rfl,rfl,by decide +kernel,rfl,by decide +kernel,by decide +kernel⟩
theorem qX:aW ["row", "top", "back", "prime", "times"] ["row", "top", "back", "prime"] (aI kR):=⟨rfl,rfl,rfl,by decide +kernel,rfl,by decide +kernel,by decide +kernel⟩
def rT:Scope:={ kind:=a9,names:=[ (ae ".0",ap),(ae "number",ap),(ae "above",ap),(ae "times",b7)],isGenerator:=false,isCoroutine:=false,more:=[]:dj }
theorem vU:vQ ["row", "top", "back", "prime", "times"] ["number", "above", "row", "top", "back", "prime", "times"] (aI kR) rT "number" "above" := ⟨rfl,by decide +kernel,by decide +kernel,rfl,rfl,by decide +kernel,rfl,rfl,rfl,by decide +kernel,rfl,by decide +kernel,by decide +kernel⟩
theorem cV:aW ["numbers", "place", "number"] ["numbers"] (aI cX):=⟨rfl,rfl,rfl,by decide +kernel,rfl,by decide +kernel,by decide +kernel⟩
theorem bH:aW ["square", "prime", "rows", "rest", "place", "top", "back"] ["square", "prime"] (aI cG):=⟨rfl,rfl,rfl,by decide +kernel,rfl,by decide +kernel,by decide +kernel⟩
def iR:Scope:={ kind:=a9,names:=[ (ae ".0",ap),(ae "row",ap),(ae "prime",b7)],isGenerator:=false,isCoroutine:=false,more:=[]:dj }
theorem jJ:cI ["square", "prime", "rows", "rest", "place", "top", "back"] ["row", "square", "prime", "rows", "rest", "place", "top", "back"] (aI cG) iR "row" := ⟨rfl,by decide +kernel,by decide +kernel,rfl,by decide +kernel,rfl,rfl,by decide +kernel,rfl,by decide +kernel,by decide +kernel⟩
def iM:Scope:={ kind:=a9,names:=[ (ae ".0",ap),(ae "number",ap),(ae "prime",b7)],isGenerator:=false,isCoroutine:=false,more:=[]:dj }
theorem jF:cI ["square", "prime", "rows", "rest", "place", "top", "back"] ["number", "square", "prime", "rows", "rest", "place", "top", "back"] (aI cG) iM "number" := ⟨rfl,by decide +kernel,by decide +kernel,rfl,by decide +kernel,rfl,rfl,by decide +kernel,rfl,by decide +kernel,by decide +kernel⟩
def iL:Scope:={ kind:=a9,names:=[ (ae ".0",ap),(ae "row",ap),(ae "lowered",bo),(ae "back",b7),(ae "prime",b7),(ae "top",b7)],isGenerator:=false,isCoroutine:=false,more:=[]:dj }
theorem jI:cI ["square", "prime", "rows", "rest", "place", "top", "back"] ["row", "square", "prime", "rows", "rest", "place", "top", "back"] (aI cG) iL "row" := ⟨rfl,by decide +kernel,by decide +kernel,rfl,by decide +kernel,rfl,rfl,by decide +kernel,rfl,by decide +kernel,by decide +kernel⟩
theorem eX:aW ["square", "bound", "row"] ["square"] (aI fH):=⟨rfl,rfl,rfl,by decide +kernel,rfl,by decide +kernel,by decide +kernel⟩
def mB:Scope:={ kind:=a9,names:=[ (ae ".0",ap),(ae "number",ap),(ae "abs",bo)],isGenerator:=false,isCoroutine:=false,more:=[]:dj }
theorem nU:cI ["square", "bound", "row"] ["number", "square", "bound", "row"] (aI fH) mB "number" := ⟨rfl,by decide +kernel,by decide +kernel,rfl,by decide +kernel,rfl,rfl,by decide +kernel,rfl,by decide +kernel,by decide +kernel⟩
theorem bK:aW ["square", "bound", "result", "modulus", "place", "times", "prime", "lacking"] ["square"] (aI gZ):=⟨rfl,rfl,rfl,by decide +kernel,rfl,by decide +kernel,by decide +kernel⟩
theorem oN:aW ["kinds"] ["kinds"] (aI gD):=⟨rfl,rfl,rfl,by decide +kernel,rfl,by decide +kernel,by decide +kernel⟩
theorem mZ:aW ["length", "kinds"] ["length", "kinds"] (aI fR):=⟨rfl,rfl,rfl,by decide +kernel,rfl,by decide +kernel,by decide +kernel⟩
theorem Ae:aW ["kinds"] ["kinds"] (aI nX):=⟨rfl,rfl,rfl,by decide +kernel,rfl,by decide +kernel,by decide +kernel⟩
theorem nI:aW ["word", "kinds", "known", "sign"] ["word", "kinds"] (aI qB):=⟨rfl,rfl,rfl,by decide +kernel,rfl,by decide +kernel,by decide +kernel⟩
theorem lF:aW ["words", "word"] ["words"] (aI iQ):=⟨rfl,rfl,rfl,by decide +kernel,rfl,by decide +kernel,by decide +kernel⟩
theorem xF:aW ["self", "words"] ["self", "words"] (aI fF):=⟨rfl,rfl,rfl,by decide +kernel,rfl,by decide +kernel,by decide +kernel⟩
theorem wM:aW ["word"] ["word"] (aI lS):=⟨rfl,rfl,rfl,by decide +kernel,rfl,by decide +kernel,by decide +kernel⟩
theorem Dq:aW ["word"] ["word"] (aI qK):=⟨rfl,rfl,rfl,by decide +kernel,rfl,by decide +kernel,by decide +kernel⟩
theorem Dl:aW ["web"] ["web"] (aI jW):=⟨rfl,rfl,rfl,by decide +kernel,rfl,by decide +kernel,by decide +kernel⟩
def uU:Scope:={ kind:=a9,names:=[ (ae ".0",ap),(ae "word",ap),(ae "begin_of",bo)],isGenerator:=false,isCoroutine:=false,more:=[]:dj }
theorem xH:cI ["web"] ["word", "web"] (aI jW) uU "word" := ⟨rfl,by decide +kernel,by decide +kernel,rfl,by decide +kernel,rfl,rfl,by decide +kernel,rfl,by decide +kernel,by decide +kernel⟩
def vP:Scope:={ kind:=a9,names:=[ (ae ".0",ap),(ae "word",ap),(ae "end_of",bo)],isGenerator:=false,isCoroutine:=false,more:=[]:dj }
theorem wP:cI ["web"] ["word", "web"] (aI jW) vP "word" := ⟨rfl,by decide +kernel,by decide +kernel,rfl,by decide +kernel,rfl,rfl,by decide +kernel,rfl,by decide +kernel,by decide +kernel⟩
theorem Kh:aW ["web", "piece"] ["web", "piece"] (aI uG):=⟨rfl,rfl,rfl,by decide +kernel,rfl,by decide +kernel,by decide +kernel⟩
def zM:Scope:={ kind:=a9,names:=[ (ae ".0",ap),(ae "word",ap),(ae "begin_of",bo),(ae "piece",b7)],isGenerator:=false,isCoroutine:=false,more:=[]:dj }
theorem Cq:cI ["web", "piece"] ["word", "web", "piece"] (aI uG) zM "word" := ⟨rfl,by decide +kernel,by decide +kernel,rfl,by decide +kernel,rfl,rfl,by decide +kernel,rfl,by decide +kernel,by decide +kernel⟩
theorem lJ:aW ["texts", "text", "words", "ends"] ["texts", "text", "words"] (aI eZ):=⟨rfl,rfl,rfl,by decide +kernel,rfl,by decide +kernel,by decide +kernel⟩
def mW:Scope:={ kind:=a9,names:=[ (ae ".0",ap),(ae "word",ap),(ae "end_of",bo)],isGenerator:=false,isCoroutine:=false,more:=[]:dj }
theorem oR:cI ["texts", "text", "words", "ends"] ["word", "texts", "text", "words", "ends"] (aI eZ) mW "word" := ⟨rfl,by decide +kernel,by decide +kernel,rfl,by decide +kernel,rfl,rfl,by decide +kernel,rfl,by decide +kernel,by decide +kernel⟩
def nO:Scope:={ kind:=a9,names:=[ (ae ".0",ap),(ae "other",ap),(ae "len",bo),(ae "ends",b7),(ae "text",b7)],isGenerator:=false,isCoroutine:=false,more:=[]:dj }
theorem oU:cI ["texts", "text", "words", "ends"] ["other", "texts", "text", "words", "ends"] (aI eZ) nO "other" := ⟨rfl,by decide +kernel,by decide +kernel,rfl,by decide +kernel,rfl,rfl,by decide +kernel,rfl,by decide +kernel,by decide +kernel⟩
theorem gF:aW ["ways", "texts"] ["ways"] (aI dW):=⟨rfl,rfl,rfl,by decide +kernel,rfl,by decide +kernel,by decide +kernel⟩
def jG:Scope:={ kind:=a9,names:=[ (ae ".0",ap),(ae "text",ap),(ae "choice_row",bo),(ae "texts",b7),(ae "ways",b7)],isGenerator:=false,isCoroutine:=false,more:=[]:dj }
theorem jR:cI ["ways", "texts"] ["text", "ways", "texts"] (aI dW) jG "text" := ⟨rfl,by decide +kernel,by decide +kernel,rfl,by decide +kernel,rfl,rfl,by decide +kernel,rfl,by decide +kernel,by decide +kernel⟩
theorem fB:aW ["web", "piece", "every", "ways", "other"] ["web", "piece"] (aI gW):=⟨rfl,rfl,rfl,by decide +kernel,rfl,by decide +kernel,by decide +kernel⟩
theorem dO:aW ["words", "piece", "begins", "word", "found", "waiting", "at", "begin"] ["words", "piece"] (aI kG):=⟨rfl,rfl,rfl,by decide +kernel,rfl,by decide +kernel,by decide +kernel⟩
theorem lL:aW ["web", "piece", "tree", "ways", "known"] ["web", "piece", "tree"] (aI iH):=⟨rfl,rfl,rfl,by decide +kernel,rfl,by decide +kernel,by decide +kernel⟩
def rL:Scope:={ kind:=a9,names:=[ (ae ".0",ap),(ae "word",ap),(ae "begin_of",bo)],isGenerator:=false,isCoroutine:=false,more:=[]:dj }
theorem vS:cI ["web", "piece", "tree", "ways", "known"] ["word", "web", "piece", "tree", "ways", "known"] (aI iH) rL "word" := ⟨rfl,by decide +kernel,by decide +kernel,rfl,by decide +kernel,rfl,rfl,by decide +kernel,rfl,by decide +kernel,by decide +kernel⟩
def rS:Scope:={ kind:=a9,names:=[ (ae ".0",ap),(ae "word",ap),(ae "web",b7)],isGenerator:=false,isCoroutine:=false,more:=[]:dj }
theorem uR:cI ["web", "piece", "tree", "ways", "known"] ["word", "web", "piece", "tree", "ways", "known"] (aI iH) rS "word" := ⟨rfl,by decide +kernel,by decide +kernel,rfl,by decide +kernel,rfl,rfl,by decide +kernel,rfl,by decide +kernel,by decide +kernel⟩
theorem kA:aW ["begun", "words", "later", "piece", "size", "found", "tree", "word", "more"] ["begun", "words", "later", "piece", "size"] (aI wC):=⟨rfl,rfl,rfl,by decide +kernel,rfl,by decide +kernel,by decide +kernel⟩
theorem hZ:aW ["web", "piece", "ways", "begun", "other", "later"] ["web", "piece"] (aI pF):=⟨rfl,rfl,rfl,by decide +kernel,rfl,by decide +kernel,by decide +kernel⟩
def xT:Scope:={ kind:=a9,names:=[ (ae ".0",ap),(ae "word",ap),(ae "begin_of",bo),(ae "other",b7)],isGenerator:=false,isCoroutine:=false,more:=[]:dj }
theorem Aa:cI ["web", "piece", "ways", "begun", "other", "later"] ["word", "web", "piece", "ways", "begun", "other", "later"] (aI pF) xT "word" := ⟨rfl,by decide +kernel,by decide +kernel,rfl,by decide +kernel,rfl,rfl,by decide +kernel,rfl,by decide +kernel,by decide +kernel⟩
theorem oO:aW ["script", "k"] ["script", "k"] (aI gK):=⟨rfl,rfl,rfl,by decide +kernel,rfl,by decide +kernel,by decide +kernel⟩
theorem dL:aW ["cells", "kinds", "first", "words", "here", "cell", "free", "word"] ["cells", "kinds", "first"] (aI gQ):=⟨rfl,rfl,rfl,by decide +kernel,rfl,by decide +kernel,by decide +kernel⟩
def oP:Scope:={ kind:=a9,names:=[ (ae ".0",ap),(ae "sign",ap),(ae "here",b7),(ae "words",b7)],isGenerator:=false,isCoroutine:=false,more:=[]:dj }
theorem qL:cI ["cells", "kinds", "first", "words", "here", "cell", "free", "word"] ["sign", "cells", "kinds", "first", "words", "here", "cell", "free", "word"] (aI gQ) oP "sign" := ⟨rfl,by decide +kernel,by decide +kernel,rfl,by decide +kernel,rfl,rfl,by decide +kernel,rfl,by decide +kernel,by decide +kernel⟩
theorem aZ:aW ["script", "at", "most", "length", "kinds", "drawn", "first", "k", "words"] ["script", "at", "most"] (aI eV):=⟨rfl,rfl,rfl,by decide +kernel,rfl,by decide +kernel,by decide +kernel⟩
theorem dQ:aW ["kinds", "length", "words", "k", "longer", "word"] ["kinds", "length"] (aI fY):=⟨rfl,rfl,rfl,by decide +kernel,rfl,by decide +kernel,by decide +kernel⟩
def nS:Scope:={ kind:=a9,names:=[ (ae ".0",ap),(ae "sign",ap),(ae "word",b7)],isGenerator:=false,isCoroutine:=false,more:=[]:dj }
theorem oM:cI ["kinds", "length", "words", "k", "longer", "word"] ["sign", "kinds", "length", "words", "k", "longer", "word"] (aI fY) nS "sign" := ⟨rfl,by decide +kernel,by decide +kernel,rfl,by decide +kernel,rfl,rfl,by decide +kernel,rfl,by decide +kernel,by decide +kernel⟩
theorem bI:aW ["cell", "most", "sizes", "kinds", "length", "part", "words", "word"] ["cell", "most"] (aI eL):=⟨rfl,rfl,rfl,by decide +kernel,rfl,by decide +kernel,by decide +kernel⟩
theorem aQ:aW ["script", "at", "most", "words", "way", "drawn", "k", "word", "j", "part"] ["script", "at", "most"] (aI fD):=⟨rfl,rfl,rfl,by decide +kernel,rfl,by decide +kernel,by decide +kernel⟩
theorem fV:aW ["words", "piece", "ways", "word", "other"] ["words", "piece"] (aI jL):=⟨rfl,rfl,rfl,by decide +kernel,rfl,by decide +kernel,by decide +kernel⟩
theorem eG:aW ["chosen", "text", "here", "step"] ["chosen"] (aI iK):=⟨rfl,rfl,rfl,by decide +kernel,rfl,by decide +kernel,by decide +kernel⟩
theorem bO:aW ["ways", "found", "text", "more", "chosen", "word", "longer"] ["ways"] (aI dJ):=⟨rfl,rfl,rfl,by decide +kernel,rfl,by decide +kernel,by decide +kernel⟩
def eW:Scope:={ kind:=a9,names:=[ (ae ".0",ap),(ae "chosen",ub),(ae "_law_comes",bo),(ae "sorted",bo)],isGenerator:=false,isCoroutine:=false,more:=[]:dj }
theorem jH:pK ["ways", "found", "text", "more", "chosen", "word", "longer"] ["chosen", "ways", "found", "text", "more", "", "word", "longer"] (aI dJ) eW "chosen" := ⟨rfl,by decide +kernel,by decide +kernel,rfl,by decide +kernel,rfl,rfl,by decide +kernel,rfl,by decide +kernel,by decide +kernel⟩
def iJ:Scope:={ kind:=a9,names:=[ (ae ".0",ap),(ae "text",ap),(ae "chosen",b7)],isGenerator:=false,isCoroutine:=false,more:=[]:dj }
theorem jK {env:Env}:cI ["chosen", "ways", "found", "text", "more", "", "word", "longer"] ["text", "chosen", "ways", "found", "0", "more", "", "word", "longer"] (relabel eW env) iJ "text" := ⟨rfl,by decide +kernel,by decide +kernel,rfl,yV (by decide +kernel) env,rfl,rfl,by decide +kernel,rfl,by decide +kernel,by decide +kernel⟩
theorem fP:aW ["tree", "words", "cell", "some", "at"] ["tree", "words", "cell"] (aI gC):=⟨rfl,rfl,rfl,by decide +kernel,rfl,by decide +kernel,by decide +kernel⟩
theorem jA:aW ["web", "piece", "due", "found", "tree"] ["web", "piece", "due"] (aI jN):=⟨rfl,rfl,rfl,by decide +kernel,rfl,by decide +kernel,by decide +kernel⟩
theorem eU:aW ["web", "words", "piece", "due", "cell", "tree", "other", "found"] ["web", "words", "piece", "due", "cell"] (aI gU):=⟨rfl,rfl,rfl,by decide +kernel,rfl,by decide +kernel,by decide +kernel⟩
theorem jV:aW ["script", "words", "web", "every", "k", "due", "ways", "first"] ["script"] (aI jE):=⟨rfl,rfl,rfl,by decide +kernel,rfl,by decide +kernel,by decide +kernel⟩
def Et:Scope:={ kind:=a9,names:=[(ae ".0",ap),(ae "word",ap)],isGenerator:=false,isCoroutine:=false,more:=[]:dj }
theorem Fz:cI ["script", "words", "web", "every", "k", "due", "ways", "first"] ["word", "script", "words", "web", "every", "k", "due", "ways", "first"] (aI jE) Et "word" := ⟨rfl,by decide +kernel,by decide +kernel,rfl,by decide +kernel,rfl,rfl,by decide +kernel,rfl,by decide +kernel,by decide +kernel⟩
def Ds:Scope:={ kind:=a9,names:=[(ae ".0",ap),(ae "word",ap)],isGenerator:=false,isCoroutine:=false,more:=[]:dj }
theorem Jw:cI ["script", "words", "web", "every", "k", "due", "ways", "first"] ["word", "script", "words", "web", "every", "k", "due", "ways", "first"] (aI jE) Ds "word" := ⟨rfl,by decide +kernel,by decide +kernel,rfl,by decide +kernel,rfl,rfl,by decide +kernel,rfl,by decide +kernel,by decide +kernel⟩
def Ey:Scope:={ kind:=a9,names:=[ (ae ".0",ap),(ae "text",ap),(ae "len",bo),(ae "ways",b7)],isGenerator:=false,isCoroutine:=false,more:=[]:dj }
theorem Hl:cI ["script", "words", "web", "every", "k", "due", "ways", "first"] ["text", "script", "words", "web", "every", "k", "due", "ways", "first"] (aI jE) Ey "text" := ⟨rfl,by decide +kernel,by decide +kernel,rfl,by decide +kernel,rfl,rfl,by decide +kernel,rfl,by decide +kernel,by decide +kernel⟩
structure Adr where
 BadKinds:Addr
 BadWord:Addr
 TooMany:Addr
 NoSuch:Addr
 Web:Addr
 KNOWN_TIMES:Addr
 u_FIRST_PRIME:Value
 u_STEP:Value
 u_LETTERS:Value
 u_LONGEST:Value
 u_MOST_OF_A_WEB:Value
 u_LONGEST_OF_A_WEB:Value
 u_MOST_TREES:Value
structure Txt (K:ac)(mg:Str->Option Value)(ad:Adr):Prop where
 b_abs:mg "abs" = none
 b_all:mg "all" = none
 b_bool:mg "bool" = none
 b_dict:mg "dict" = none
 b_enumerate:mg "enumerate" = none
 b_isinstance:mg "isinstance" = none
 b_len:mg "len" = none
 b_list:mg "list" = none
 b_range:mg "range" = none
 b_reversed:mg "reversed" = none
 b_set:mg "set" = none
 b_sorted:mg "sorted" = none
 b_sum:mg "sum" = none
 b_tuple:mg "tuple" = none
 b_zip:mg "zip" = none
 m_BadKinds:mg "BadKinds" = some (.ref ad.BadKinds)
 m_BadWord:mg "BadWord" = some (.ref ad.BadWord)
 m_TooMany:mg "TooMany" = some (.ref ad.TooMany)
 m_NoSuch:mg "NoSuch" = some (.ref ad.NoSuch)
 m_Web:mg "Web" = some (.ref ad.Web)
 m_KNOWN_TIMES:mg "KNOWN_TIMES" = some (.ref ad.KNOWN_TIMES)
 x_BadKinds:Exc K mg "BadKinds" ad.BadKinds
 x_BadWord:Exc K mg "BadWord" ad.BadWord
 x_TooMany:Exc K mg "TooMany" ad.TooMany
 x_NoSuch:Exc K mg "NoSuch" ad.NoSuch
 n_NoSuch:Knd K ad.NoSuch
 n_TooMany:Knd K ad.TooMany
 g_FIRST_PRIME:mg "FIRST_PRIME" = some ad.u_FIRST_PRIME
 r_FIRST_PRIME:bF (.int 2305843009213693951) ad.u_FIRST_PRIME
 g_STEP:mg "STEP" = some ad.u_STEP
 r_STEP:bF (.int 6277101735386680763835789423207666416102355444464034512896) ad.u_STEP
 g_LETTERS:mg "LETTERS" = some ad.u_LETTERS
 r_LETTERS:bF (T [97,98,99,100,101,102]) ad.u_LETTERS
 g_LONGEST:mg "LONGEST" = some ad.u_LONGEST
 r_LONGEST:bF (.int 24) ad.u_LONGEST
 g_MOST_OF_A_WEB:mg "MOST_OF_A_WEB" = some ad.u_MOST_OF_A_WEB
 r_MOST_OF_A_WEB:bF (.int 64) ad.u_MOST_OF_A_WEB
 g_LONGEST_OF_A_WEB:mg "LONGEST_OF_A_WEB" = some ad.u_LONGEST_OF_A_WEB
 r_LONGEST_OF_A_WEB:bF (.int 8) ad.u_LONGEST_OF_A_WEB
 g_MOST_TREES:mg "MOST_TREES" = some ad.u_MOST_TREES
 r_MOST_TREES:bF (.int 500) ad.u_MOST_TREES
 kt:tupIs K ad.KNOWN_TIMES [133,211,598,652,721,850,1282,1417,1582,1681,1726,1837,1885,2017,2377,2383,2452,2476,2530,2611,2662,2698,2773,2878,2917,2980,2998,3082,3238,3250,3343,3421,3427,3670,3817,4162,4252,4447,4468,4621,4630,4747,4867,4891,4915,5128,5143,5236,5401,5587,5650,5803,5833,5923,5986,6202,6235,6286,6496,6526,6736,7093,7561,7696,7831,7855,7882,7927,8143,8248]=true
 cl_Web:Cls K ad.Web
 na_Web_words:kE K ad.Web "words"
 na_Web_length:kE K ad.Web "length"
theorem dS {CX:CXT}{P:Program}{w:World}{K:ac}{mg:Str->Option Value}{base:Heap}{N:List Str}{q:Str}{sc:Scope}{f:Addr}{cdv:Value}{A:Around}{outer:List Env}{s:Shared}{H:Hp}{E:XK}:(oT CX P w K mg base N q sc f cdv A outer s H E).nox.K=K:=rfl
section
variable {P:Program}{w:World}{K:ac}{mg:Str->Option Value}{base:Heap}{ad:Adr}
theorem Ta {m:Nat}(h:m<6):([97,98,99,100,101,102]:List Nat)[m]?=some (97+m):=by
 have key:∀ m:Nat,m<6->([97,98,99,100,101,102]:List Nat)[m]?=some (97+m):=by decide
 exact key m h
theorem At {k c:Nat}(hk:k<=6):c∈([97,98,99,100,101,102]:List Nat).take k↔97<=c∧c<97+k:=by
 have key:∀ k:Nat,k<7->([97,98,99,100,101,102]:List Nat).take k=(cu k).map (97 + ·):=by decide
 rw[key k (qo hk),ar];exact⟨fun ⟨i,h,e⟩=>e▸⟨ip _ _,Nat.add_lt_add_left (de.mp h) _⟩,fun ⟨h1,h2⟩=>⟨c-97,de.mpr (Nat.sub_lt_left_of_lt_add h1 h2),Nat.add_sub_cancel' h1⟩⟩
def qI (ad:Adr):Sp:=fun vs H Q E=>∃ k:Int,vs=[.int k]∧((1<=k∧k<=6)->Q .non H)∧(¬ (1<=k∧k<=6)->E (.ref ad.BadKinds) none H)
theorem oS {f:Addr}{fd:FuncData}(F:Fun K "looked_kinds" "looked_kinds" gD f fd)(tt:Txt K mg ad):cN P w K mg base (CX1 P w) 1 f fd ["kinds"] (qI ad):=by
 refine F.okX oN (fun vs H Q E h=>?_) (fun cdv A outer s H vs Q E hr h=>?_)
 ·obtain⟨k,rfl,_⟩:=h
  rfl
 ·obtain⟨k,rfl,q,x⟩:=h
  have hs:sizeLine=16777216:=sizeLine_eq;refine⟨_,(aF (bU (PW.pt (sJ (aO yH (pv 0) aG (aY _)) (nG (aO kB (pv 0) (aN dY (by rfl) tt.b_len bc (aA (eK (by rfl) tt.g_LETTERS tt.r_LETTERS) aD)) (aY _))))) (aF (eI (E:=fun cls H'=>E cls none H') tt.x_BadKinds rfl (fun _ _ _ _ _ _ _ I hx q=>gY I hx q) (aA (bW [107,105,110,100,115,32,97,114,101,32,97,32,119,104,111,108,101,32,110,117,109,98,101,114,32,102,114,111,109,32,49,32,116,111,32,54] (by decide +kernel)) aD))) aV)),?_⟩
  (try rw[dS]);(try rw[cxK1])
  refine⟨_,rfl,_,_,rfl,rfl,_,rfl,?_⟩;refine fN (fun h0=>Jr ?_) (fun h0=>?_)
  ·have h1:k<1:=of_decide_eq_true h0
   exact⟨(by show 1<=sizeLine;omega),x fun z=>by omega⟩
  ·have h1:¬ k<1:=fun z=>h0 (decide_eq_true z)
   refine⟨_,rfl,_,rfl,(by show 6<=sizeLine;omega),_,_,rfl,rfl,_,rfl,?_⟩;refine fN (fun h2=>?_) (fun h2=>?_)
   ·have h3:(6:Int)<k:=of_decide_eq_true h2
    exact⟨(by show 1<=sizeLine;omega),x fun z=>by omega⟩
   ·have h3:¬ (6:Int)<k:=fun z=>h2 (decide_eq_true z)
    exact q ⟨by omega,by omega⟩
def Gh (ad:Adr):Sp:=fun vs H Q E=>∃ n k:Int,vs=[.int n,.int k]∧((1<=k∧k<=6)->(1<=n∧n<=24)->Q .non H)∧(¬ (1<=k∧k<=6)->E (.ref ad.BadKinds) none H)∧((1<=k∧k<=6)->¬ (1<=n∧n<=24)->E (.ref ad.BadWord) none H)
theorem nP {f:Addr}{fd:FuncData}(F:Fun K "looked_length" "looked_length" fR f fd)(tt:Txt K mg ad)(C_looked_kinds:Cal P w K mg base (CX1 P w) "looked_kinds" 1 ["kinds"] (qI ad)) :
  cN P w K mg base (CX1 P w) 2 f fd ["length", "kinds"] (Gh ad):=by
 refine F.okX mZ (fun vs H Q E h=>?_) (fun cdv A outer s H vs Q E hr h=>?_)
 ·obtain⟨n,k,rfl,_⟩:=h
  rfl
 ·obtain⟨n,k,rfl,q,x1,x2⟩:=h
  have hs:sizeLine=16777216:=sizeLine_eq;refine⟨_,(aC (cW (aU C_looked_kinds hr oB (aA (pv 1) aD)))
   (aF (bU (PW.pt (sJ (aO yH (pv 0) aG (aY _)) (nG (aO kB (pv 0) (eK (by rfl) tt.g_LONGEST tt.r_LONGEST) (aY _))))) (aF (eI (E:=fun cls H'=>E cls none H') tt.x_BadWord rfl (fun _ _ _ _ _ _ _ I hx q=>gY I hx q) (aA (bW [97,32,119,111,114,100,32,104,97,115,32,49,32,116,111,32,50,52,32,108,101,116,116,101,114,115] (by decide +kernel)) aD))) aV))),?_⟩
  (try rw[dS]);(try rw[cxK1])
  refine⟨_,rfl,k,rfl,fun hk=>?_,x1⟩;refine⟨_,rfl,_,_,rfl,rfl,_,rfl,?_⟩;refine fN (fun h0=>Jr ?_) (fun h0=>?_)
  ·have h1:n<1:=of_decide_eq_true h0
   exact⟨(by show 1<=sizeLine;omega),x2 hk fun z=>by omega⟩
  ·have h1:¬ n<1:=fun z=>h0 (decide_eq_true z)
   refine⟨_,rfl,_,_,rfl,rfl,_,rfl,?_⟩;refine fN (fun h2=>?_) (fun h2=>?_)
   ·have h3:(24:Int)<n:=of_decide_eq_true h2
    exact⟨(by show 1<=sizeLine;omega),x2 hk fun z=>by omega⟩
   ·have h3:¬ (24:Int)<n:=fun z=>h2 (decide_eq_true z)
    exact q hk ⟨by omega,by omega⟩
def qA (ad:Adr):Sp:=fun vs H Q E=>∃ k:Int,vs=[.int k]∧(∀ kn:Nat,k=(kn:Nat)->(1<=kn∧kn<=6)->Q (T (([97,98,99,100,101,102]:List Nat).take kn)) H)∧(¬ (1<=k∧k<=6)->E (.ref ad.BadKinds) none H)
theorem zQ {f:Addr}{fd:FuncData}(F:Fun K "letters" "letters" nX f fd)(tt:Txt K mg ad)(C_looked_kinds:Cal P w K mg base (CX1 P w) "looked_kinds" 1 ["kinds"] (qI ad)):cN P w K mg base (CX1 P w) 2 f fd ["kinds"] (qA ad):=by
 refine F.okX Ae (fun vs H Q E h=>?_) (fun cdv A outer s H vs Q E hr h=>?_)
 ·obtain⟨k,rfl,_⟩:=h
  rfl
 ·obtain⟨k,rfl,q,x⟩:=h
  have hs:sizeLine=16777216:=sizeLine_eq;refine⟨_,(aC (cW (aU C_looked_kinds hr oB (aA (pv 0) aD)))
   (aF (bA (aS lA (eK (by rfl) tt.g_LETTERS tt.r_LETTERS) bD (aX (pv 0)))))),?_⟩
  (try rw[dS]);(try rw[cxK1])
  refine⟨_,rfl,k,rfl,fun hk=>?_,x⟩;obtain⟨kn,rfl⟩:∃ kn:Nat,k=(kn:Nat):=⟨k.toNat,by omega⟩;refine⟨_,rfl,_,rfl,_,rfl,(by show 6<=sizeLine;omega),?_⟩;rw[Lk (by show kn<=6;omega)];exact q kn rfl ⟨by omega,by omega⟩
def vD (w:List Nat)(kn:Nat):Prop:=(1<=w.length∧w.length<=24)∧∀ c∈w,97<=c∧c<97+kn
def sU (ad:Adr):Sp:=fun vs H Q E=>∃ (w:List Nat) (k:Int),vs=[T w,.int k]∧w.length<=100000∧(¬ (1<=k∧k<=6)->E (.ref ad.BadKinds) none H) ∧
 ∀ kn:Nat,k=(kn:Nat)->(1<=kn∧kn<=6)->(vD w kn->Q .non H)∧(¬ vD w kn->E (.ref ad.BadWord) none H)
theorem Da {f:Addr}{fd:FuncData}(F:Fun K "looked" "looked" qB f fd)(tt:Txt K mg ad)(C_looked_length:Cal P w K mg base (CX1 P w) "looked_length" 2 ["length", "kinds"] (Gh ad))
  (C_letters:Cal P w K mg base (CX1 P w) "letters" 2 ["kinds"] (qA ad)):cN P w K mg base (CX1 P w) 3 f fd ["word", "kinds"] (sU ad):=by
 refine F.okX nI (fun vs H Q E h=>?_) (fun cdv A outer s H vs Q E hr h=>?_)
 ·obtain⟨w,k,rfl,_⟩:=h
  rfl
 ·obtain⟨w,k,rfl,hw,x1,q⟩:=h
  have hs:sizeLine=16777216:=sizeLine_eq;refine⟨_,(aC (cW (aU C_looked_length hr oB (aA (aN dY (by rfl) tt.b_len bc (aA (pv 0) aD)) (aA (pv 1) aD))))
   (aC (aJ (i:=2) nI.nd rfl (Or.inl rfl) (aU C_letters hr oB (aA (pv 1) aD)))
   (aF (bZ PassesOwn.leaving rfl (yT (pv 0)) (bG (i:=3) nI.nd rfl (Or.inl rfl)) (aF (bU (aO wG (pv 3) (pv 2) (by with_unfolding_all rfl)) (aF (eI (E:=fun cls H'=>E cls none H') tt.x_BadWord rfl (fun _ _ _ _ _ _ _ I hx q=>gY I hx q) (aA (bW [97,32,119,111,114,100,32,104,97,115,32,108,101,116,116,101,114,115,32,111,102,32,105,116,115,32,107,105,110,100,115,32,97,108,111,110,101] (by decide +kernel)) aD))) aV)))))),?_⟩
  (try rw[dS]);(try rw[cxK1])
  refine⟨_,rfl,_,rfl,(by omega),_,rfl,_,k,rfl,fun hk hn=>?_,x1,fun hk hn=>?_⟩
  rotate_left
  ·obtain⟨kn,rfl⟩:∃ kn:Nat,k=(kn:Nat):=⟨k.toNat,by omega⟩
   exact (q kn rfl ⟨by omega,by omega⟩).2 fun z=>hn ⟨by have:=z.1;omega,by have:=z.1;omega⟩
  obtain⟨kn,rfl⟩:∃ kn:Nat,k=(kn:Nat):=⟨k.toNat,by omega⟩;obtain⟨q1,q2⟩:=q kn rfl ⟨by omega,by omega⟩;refine⟨_,rfl,_,rfl,fun kn' ek hk'=>?_,fun z=>absurd hk z⟩;obtain rfl:kn=kn':=by omega
  refine⟨_,rfl,_,rfl,?_⟩;refine Jl (l:=w) (fun i σ H2=>H=H2∧(∀ c∈w.take i,97<=c∧c<97+kn)∧∃ v,σ=[some (T w),some (.int (kn:Nat)),some (T (([97,98,99,100,101,102]:List Nat).take kn)),v]) ⟨rfl,fun c hc=>(by simp at hc),none,rfl⟩ ?_ ?_
  ·rintro i c σ H2 hi ⟨rfl,hall,v,rfl⟩
   refine⟨_,rfl,_,rfl,_,rfl,_,rfl,_,rfl,?_⟩;refine fN (fun h0=>?_) (fun h0=>?_)
   ·have h1:¬ c∈([97,98,99,100,101,102]:List Nat).take kn:=fun z=>by
     rw[decide_eq_true z] at h0;cases h0
    refine⟨(by show 1<=sizeLine;omega),q2 fun z=>h1 ?_⟩;exact (At (by omega)).mpr (z.2 c (az hi))
   ·have h1:c∈([97,98,99,100,101,102]:List Nat).take kn:=by
     apply cc;intro z;rw[decide_eq_false z] at h0;exact h0 rfl
    refine⟨rfl,fun d hd=>?_,_,rfl⟩;have hil:=(al.mp hi).1;rw[br,hi] at hd;rcases a6.mp hd with z | z
    ·exact hall d z
    ·have:d=c:=by simpa using z
     subst this;exact (At (by omega)).mp h1
  ·rintro σ H2 ⟨rfl,hall,v,rfl⟩
   rw[bv] at hall;exact q1 ⟨⟨by omega,by omega⟩,hall⟩
def qS (k:Nat)(ls:List (List Nat)):Prop:=∃ ps:List (List Nat),ps.length<=k∧∀ w∈ls,w.take (w.length-1)∈ps∧w.drop 1∈ps
def Few (ls:List (List Nat)):Prop:=qS 61 ls
theorem qS.sub {k:Nat}{ls ms:List (List Nat)}(h:qS k ls)(s:∀ w∈ms,w∈ls):qS k ms:=h.elim fun ps g=>⟨ps,g.1,fun w hw=>g.2 w (s w hw)⟩
theorem qS.len {k:Nat}{ls:List (List Nat)}(h:2*ls.length<=k):qS k ls:=⟨ls.map (fun w=>w.take (w.length-1))++ls.map (fun w=>w.drop 1),by rw[ag,aR,aR];omega,fun w hw=>⟨a6.mpr (.inl (ar.mpr ⟨w,hw,rfl⟩)),a6.mpr (.inr (ar.mpr ⟨w,hw,rfl⟩))⟩⟩
theorem Jb {ls:List (List Nat)}(h:ls.Nodup):(uniq ls).length=ls.length:=((jd (lK ls) h).mpr fun x=>fJ ls x).length_eq
theorem Oh {H:Hp}{p x C dx:Addr}{fs:List (Str×V)}{xs:List V}{o:HO}(h:SqL K H p xs)(hx:H x=some (.ins C dx fs)):SqL K (upd H x o) p xs:=by
 rcases h with (h | ⟨q,h⟩) | h
 ·exact .inl (.inl (by rw[aH (fun z=>by subst z;rw[hx] at h;cases h)];exact h))
 ·exact .inl (.inr ⟨q,by rw[aH (fun z=>by subst z;rw[hx] at h;cases h)];exact h⟩)
 ·exact .inr h
def gT (ls:List (List Nat))(n:Nat):Prop:=ls≠[]∧ls.length<=63∧((1<=n∧n<=8)∧Few ls)∧(∀ x∈ls,x.length=n∧∀ c∈x,97<=c∧c<103)∧ls.Nodup
def Jd (K:ac):Sp:=fun vs H Q _=>∃ (p:Addr) (ls:List (List Nat)) (n:Nat),vs=[.ref p]∧SqL K H p (ls.map T)∧gT ls n∧∀ H',aM H H'->Q .non H'
theorem sB {f:Addr}{fd:FuncData}(F:Fun K "looked_web" "looked_web" iQ f fd)(tt:Txt K mg ad)(C_looked:Cal P w K mg base (CX1 P w) "looked" 3 ["word", "kinds"] (sU ad)) :
  cN P w K mg base (CX1 P w) 4 f fd ["words"] (Jd K):=by
 refine F.okX lF (fun vs H Q E h=>?_) (fun cdv A outer s H vs Q E hr h=>?_)
 ·obtain⟨p,ls,n,rfl,_⟩:=h
  rfl
 ·obtain⟨p,ls,n,rfl,hS,⟨hne,h64,hn,hx,hnd⟩,q⟩:=h
  have hs:sizeLine=16777216:=sizeLine_eq;have hl0:0<ls.length:=gn.mpr hne;obtain⟨x0,hx0⟩:∃ x0,ls[0]?=some x0:=⟨_,aa hl0⟩;have hx0l:=(hx x0 (az hx0)).1;refine⟨_,(aC (bU (aO kB (aN aP (by rfl) tt.b_len bc (aA (pv 0) aD)) (eK (by rfl) tt.g_MOST_OF_A_WEB tt.r_MOST_OF_A_WEB) (aY _)) (aF (eI (E:=fun cls H'=>E cls none H') tt.x_TooMany rfl (fun _ _ _ _ _ _ _ I hx q=>gY I hx q) (aA (bW [97,32,119,101,98,32,104,97,115,32,97,116,32,109,111,115,116,32,54,52,32,119,111,114,100,115] (by decide +kernel)) aD))) aV)
   (aC (bU (aO eA (aN aP (by rfl) tt.b_len bc (aA (pv 0) aD)) aG (aY _)) (aF (eI (E:=fun cls H'=>E cls none H') tt.x_BadWord rfl (fun _ _ _ _ _ _ _ I hx q=>gY I hx q) (aA (bW [97,32,119,101,98,32,104,97,115,32,97,116,32,108,101,97,115,116,32,111,110,101,32,119,111,114,100] (by decide +kernel)) aD))) aV)
   (aC (bZ PassesOwn.leaving rfl (bL (pv 0)) (bG (i:=1) lF.nd rfl (Or.inl rfl)) (aC (cW (aU C_looked hr oB (aA (pv 1) (aA (aN dY (by rfl) tt.b_len bc (aA (eK (by rfl) tt.g_LETTERS tt.r_LETTERS) aD)) aD))))
   (aC (bU (aO kB (aN dY (by rfl) tt.b_len bc (aA (pv 1) aD)) (eK (by rfl) tt.g_LONGEST_OF_A_WEB tt.r_LONGEST_OF_A_WEB) (aY _)) (aF (eI (E:=fun cls H'=>E cls none H') tt.x_BadWord rfl (fun _ _ _ _ _ _ _ I hx q=>gY I hx q) (aA (bW [97,32,119,111,114,100,32,111,102,32,97,32,119,101,98,32,104,97,115,32,97,116,32,109,111,115,116,32,56,32,108,101,116,116,101,114,115] (by decide +kernel)) aD))) aV)
   (aF (bU (aO pD (aN dY (by rfl) tt.b_len bc (aA (pv 1) aD)) (aN dY (by rfl) tt.b_len bc (aA (dC bX (pv 0) aG (fun _ _=>rfl)) aD)) (aY _)) (aF (eI (E:=fun cls H'=>E cls none H') tt.x_BadWord rfl (fun _ _ _ _ _ _ _ I hx q=>gY I hx q) (aA (bW [116,104,101,32,119,111,114,100,115,32,111,102,32,97,32,119,101,98,32,104,97,118,101,32,111,110,101,32,108,101,110,103,116,104] (by decide +kernel)) aD))) aV)))))
   (aF (bU (aO pD (aN Dv (by rfl) tt.b_len bc (aA (dH (Er rfl) (by rfl) tt.b_set (by decide +kernel) (aA (pv 0) aD)) aD)) (aN aP (by rfl) tt.b_len bc (aA (pv 0) aD)) (aY _)) (aF (eI (E:=fun cls H'=>E cls none H') tt.x_BadWord rfl (fun _ _ _ _ _ _ _ I hx q=>gY I hx q) (aA (bW [97,32,119,111,114,100,32,115,116,97,110,100,115,32,105,110,32,97,32,119,101,98,32,111,110,99,101] (by decide +kernel)) aD))) aV))))),?_⟩
  (try rw[dS]);(try rw[cxK1])
  refine⟨_,rfl,p,_,rfl,.inl hS,_,_,rfl,rfl,_,rfl,?_⟩;rw[aR];refine fN (fun h0=>absurd (of_decide_eq_true h0) (by omega)) (fun _=>?_);refine⟨_,rfl,p,_,rfl,.inl hS,_,rfl,_,rfl,_,rfl,?_⟩;rw[aR];refine fN (fun h0=>absurd (of_decide_eq_true h0) (by omega)) (fun _=>?_);refine⟨_,rfl,p,rfl,⟨_,hS⟩,?_⟩;refine cD (K:=K) (a:=p) (xs:=ls.map T) (fun i σ H2=>H2=H∧∃ v,σ=[some (.ref p),v]) ⟨rfl,none,rfl⟩ (fun i σ H2 _ h=>by rw[h.1];exact hS) ?_ ?_
  ·rintro i y σ H2 hi ⟨rfl,v,rfl⟩
   obtain⟨x,hxi,rfl⟩:∃ x,ls[i]?=some x∧y=T x:=by
    rw[aj] at hi;obtain⟨x,h1,h2⟩:=ba.mp hi;exact⟨x,h1,h2.symm⟩
   obtain⟨hxl,hxc⟩:=hx x (az hxi);have hg:∀ kn:Nat,(6:Int)=(kn:Nat)->vD x kn:=fun kn e=>⟨⟨by omega,by omega⟩,fun c hc=>by have:=hxc c hc;omega⟩
   refine⟨_,rfl,_,rfl,(by show 6<=sizeLine;omega),x,6,rfl,(by omega),fun z=>absurd ⟨by decide,by decide⟩ z,fun kn ek hk=>⟨fun _=>?_,fun z=>absurd (hg kn ek) z⟩⟩;refine⟨_,rfl,_,rfl,(by omega),_,_,rfl,rfl,_,rfl,?_⟩;refine fN (fun h0=>absurd (of_decide_eq_true h0) (by omega)) (fun _=>?_);refine⟨_,rfl,_,rfl,(by omega),_,rfl,p,_,_,_,rfl,rfl,hS,cQ (j:=0) (by rw[aj,hx0];rfl),_,rfl,(by omega),_,rfl,_,rfl,_,rfl,?_⟩;refine Nh (by rw[hxl,hx0l]) ?_;exact⟨rfl,_,rfl⟩
  ·rintro σ H2 ⟨rfl,v,rfl⟩
   refine⟨_,rfl,p,ls,rfl,hS,(by omega),fun D hD=>?_⟩;have sD:aM H2 (upd H2 D (Fh P w D (uniq ls))):=fun b o e=>by rw[aH (aK e hD)];exact e
   refine⟨D,_,rfl,aB,_,rfl,p,_,rfl,.inl (sD.seq hS),_,rfl,_,rfl,_,rfl,?_⟩;refine Nh (by rw[aR,Jb hnd]) ?_;exact q _ sD
def Kw (tp:Addr)(n:Int):List (Str×V):=iS "length" (.int n) (iS "words" (.ref tp) [])
theorem qN (tp:Addr)(n:Int):(Kw tp n).lookup ("words" : Str)=some (.ref tp):=by
 unfold Kw;rw[gM,if_neg (by decide +kernel),gM,if_pos rfl]
def zP (K:ac)(C:Addr):Sp:=fun vs H Q _=>∃ (x dx p:Addr) (ls:List (List Nat)) (n:Nat),vs=[.ref x,.ref p]∧H x=some (.ins C dx [])∧SqL K H p (ls.map T)∧gT ls n ∧
 ∀ (tp:Addr) (ms:List (List Nat)) (H':Hp),ms.Perm ls->ms.Pairwise (fun a b=>¬ b<a)->(∀ b o,H b=some o->b≠x->H' b=some o)->H' x=some (.ins C dx (Kw tp (n:Nat)))->H' tp=some (.tup (ms.map T))->Q .non H'
theorem wI {f:Addr}{fd:FuncData}(F:Fun K "__init__" "Web.__init__" fF f fd)(tt:Txt K mg ad)(C_looked_web:Cal P w K mg base (CX1 P w) "looked_web" 4 ["words"] (Jd K)) :
  cN P w K mg base (CX1 P w) 5 f fd ["self", "words"] (zP K ad.Web):=by
 refine F.okX xF (fun vs H Q E h=>?_) (fun cdv A outer s H vs Q E hr h=>?_)
 ·obtain⟨x,dx,p,ls,n,rfl,_⟩:=h
  rfl
 ·obtain⟨x,dx,p,ls,n,rfl,hx,hS,hok,q⟩:=h
  have hs:sizeLine=16777216:=sizeLine_eq;obtain⟨hne,h64,hn,hxs,hnd⟩:=id hok;have hl0:0<ls.length:=gn.mpr hne;obtain⟨x0,hx0⟩:∃ x0,ls[0]?=some x0:=⟨_,aa hl0⟩;have hx0l:=(hxs x0 (az hx0)).1;refine⟨_,(aC (cW (aU C_looked_web hr oB (aA (pv 1) aD)))
   (aC (Jm (pv 0) (dH lG (by rfl) tt.b_tuple (by decide +kernel) (aA (aN mS (by rfl) tt.b_sorted dt (aA (pv 1) aD)) aD)) rfl)
   (aF (Jm (pv 0) (aN dY (by rfl) tt.b_len bc (aA (dC bX (pv 1) aG (fun _ _=>rfl)) aD)) rfl)))),?_⟩
  (try rw[dS]);(try rw[cxK1])
  refine⟨_,rfl,p,ls,n,rfl,hS,hok,fun H1 s1=>?_⟩;refine⟨_,rfl,p,ls,rfl,s1.seq hS,(by omega),fun ms D hD hperm hpw=>?_⟩;have s2:aM H1 (upd H1 D (.lst (ms.map T))):=fun b o e=>by rw[aH (aK e hD)];exact e
  refine⟨D,_,rfl,.inl ⟨SqL.of aB,fun tp htp=>?_⟩⟩;have s3:aM (upd H1 D (.lst (ms.map T))) (upd (upd H1 D (.lst (ms.map T))) tp (.tup (ms.map T))):=fun b o e=>by rw[aH (aK e htp)];exact e
  generalize hH3:upd (upd H1 D (.lst (ms.map T))) tp (.tup (ms.map T))=H3 at s3;have htp3:H3 tp=some (.tup (ms.map T)):=by rw[<- hH3];exact aB
  have s13:aM H H3:=s1.trans (s2.trans s3);have hx3:=s13 x _ hx;have hxt:tp≠x:=fun z=>by subst z;rw[htp3] at hx3;cases hx3
  refine⟨_,rfl,x,ad.Web,dx,[],rfl,hx3,tt.cl_Web,tt.na_Web_words,(by show 0<1000;decide),?_⟩;have hS4:SqL K (upd H3 x (.ins ad.Web dx (iS "words" (.ref tp) []))) p (ls.map T):=Oh (s13.seq hS) hx3
  refine⟨_,rfl,p,_,_,_,rfl,rfl,hS4,cQ (j:=0) (by rw[aj,hx0];rfl),_,rfl,(by omega),_,rfl,x,ad.Web,dx,_,rfl,aB,tt.cl_Web,tt.na_Web_length,(by show 1<1000;decide),?_⟩;refine q tp ms _ hperm hpw (fun b o e hb=>?_) ?_ ?_
  ·rw[aH hb,aH hb]
   exact s13 b o e
  ·rw[aB,hx0l]
   rfl
  ·rw[aH hxt,aH hxt]
   exact htp3
def jO (C:Addr)(H:Hp)(x tp:Addr)(n:Nat)(ms:List (List Nat)):Prop:=(∃ dx,H x=some (.ins C dx (Kw tp (n:Nat))))∧H tp=some (.tup (ms.map T))
theorem jO.on {C:Addr}{H H':Hp}{x tp:Addr}{n:Nat}{ms:List (List Nat)}(h:jO C H x tp n ms)(s:aM H H'):jO C H' x tp n ms:=let ⟨⟨dx,e⟩,t⟩:=h;⟨⟨dx,s _ _ e⟩,s _ _ t⟩
def kK:Sp:=fun vs H Q _=>∃ t:List Nat,vs=[T t]∧(1<=t.length∧t.length<=1000)∧Q (T (t.take (t.length-1))) H
theorem kN {t:List Nat}(h:1<=t.length):fX t none (some (-1))=t.take (t.length-1):=by
 unfold fX;rw[HT.eS,jb,jh];show t.take (if (-1:Int)<0 then ((-1:Int)+(t.length:Int)).toNat else min (-1:Int).toNat t.length)=_;rw[if_pos (by decide),show ((-1:Int)+(t.length:Int)).toNat=t.length-1 by omega]
theorem xJ {f:Addr}{fd:FuncData}(F:Fun K "begin_of" "begin_of" lS f fd)(tt:Txt K mg ad):cN P w K mg base (CX1 P w) 1 f fd ["word"] kK:=by
 refine F.okN wM (fun vs H Q E h=>?_) (fun cdv A outer s H vs Q E hr h=>?_)
 ·obtain⟨t,rfl,_⟩:=h
  rfl
 ·obtain⟨t,rfl,hl,q⟩:=h
  have hs:sizeLine=16777216:=sizeLine_eq;refine⟨_,(aF (bA (aS lA (pv 0) bD (aX (kD gI aG))))),?_⟩
  (try rw[dS]);(try rw[cxK1])
  refine⟨_,rfl,_,rfl,_,rfl,_,rfl,(by omega),?_⟩;rw[show -(1:Int) = -1 from rfl,kN hl.1];exact q
def Aq:Sp:=fun vs H Q _=>∃ t:List Nat,vs=[T t]∧(1<=t.length∧t.length<=1000)∧Q (T (t.drop 1)) H
theorem Ek {f:Addr}{fd:FuncData}(F:Fun K "end_of" "end_of" qK f fd)(tt:Txt K mg ad):cN P w K mg base (CX1 P w) 1 f fd ["word"] Aq:=by
 refine F.okN Dq (fun vs H Q E h=>?_) (fun cdv A outer s H vs Q E hr h=>?_)
 ·obtain⟨t,rfl,_⟩:=h
  rfl
 ·obtain⟨t,rfl,hl,q⟩:=h
  have hs:sizeLine=16777216:=sizeLine_eq;refine⟨_,(aF (bA (aS lA (pv 0) (aX aG) bD))),?_⟩
  (try rw[dS]);(try rw[cxK1])
  refine⟨_,rfl,_,rfl,_,rfl,(by omega),?_⟩;have e:fX t (some 1) none=t.drop 1:=hJ (k:=1) hl.1;rw[e];exact q
theorem aE {H:Hp}{D:Addr}{o:HO}(h:H D=none):aM H (upd H D o):=fun b u e=>by rw[aH (aK e h)];exact e
theorem Fp {H G:Hp}(s:aM H G):∃ H',H'=G∧aM H H':=⟨G,rfl,s⟩
theorem vC {H G:Hp}{D:Addr}{o:HO}(s:aM H (upd G D o)):∃ H',H'=upd G D o∧aM H H'∧H' D=some o:=⟨_,rfl,s,aB⟩
def beg (l:List Nat):List Nat:=l.take (l.length-1)
def Abc (x:List Nat):Prop:=∀ c∈x,97<=c∧c<103
theorem tY {t:List Nat}:∀ {ls:List (List Nat)},inV (T t) (ls.map T)=decide (t∈ls)
 | []=>by simp[inV]
 | l::ls=>by
  have ih:=@tY t ls;have e:inV (T t) ((l::ls).map T)=(eqV (T l) (T t)||inV (T t) (ls.map T)):=rfl;have e2:eqV (T l) (T t)=decide (t=l):=by
   show (tx l==tx t)=decide (t=l);rw[ci,beq_iff_eq,decide_eq_true_iff];exact⟨fun h=>(eF h).symm,fun h=>by rw[h]⟩
  rw[e,ih,e2,ci,iy,decide_eq_true_iff,decide_eq_true_iff,decide_eq_true_iff,au]
theorem itP {c A B:Prop}[Decidable c](hc:c)(h:A):if c then A else B:=by rw[if_pos hc];exact h
theorem itN {c A B:Prop}[Decidable c](hc:¬ c)(h:B):if c then A else B:=by rw[if_neg hc];exact h
def IsP (ms:List (List Nat))(z:List Nat):Prop:=∃ w∈ms,z=beg w∨z=w.drop 1
theorem wN {k:Nat}{ls ps:List (List Nat)}{p:List Nat}(h:qS k ls)(hn:ps.Nodup)(hm:∀ z∈ps,z=p∨IsP ls z):ps.length<=k+1:=by
 obtain⟨qs,h1,h2⟩:=h
 have:=Hg.vR (ms:=p::qs) hn fun z hz=>by
  rcases hm z hz with rfl | ⟨w,hw,rfl | rfl⟩
  ·exact am ..
  ·exact ai _ (h2 w hw).1
  ·exact ai _ (h2 w hw).2
 rw[aw] at this;omega
theorem Sd {ls ps:List (List Nat)}{p:List Nat}(h:Few ls)(hn:ps.Nodup)(hm:∀ z∈ps,z=p∨IsP ls z):ps.length<64:=by
 have:=wN h hn hm
 omega
def wJ (C:Addr):Sp:=fun vs H Q _=>∃ (x tp:Addr) (n:Nat) (ms:List (List Nat)),vs=[.ref x]∧jO C H x tp n ms∧gT ms n ∧
 ∀ (D:Addr) (ps:List (List Nat)) (H':Hp),H D=none->aM H H'->H' D=some (.lst (ps.map T))->ps.Pairwise (fun a b=>¬ b<a)->ps.Nodup->(∀ z,z∈ps↔IsP ms z)->Q (.ref D) H'
theorem Ej {f:Addr}{fd:FuncData}(F:Fun K "pieces" "pieces" jW f fd)(tt:Txt K mg ad)(C_begin_of:Cal P w K mg base (CX1 P w) "begin_of" 1 ["word"] kK)(C_end_of:Cal P w K mg base (CX1 P w) "end_of" 1 ["word"] Aq) :
  cN P w K mg base (CX1 P w) 2 f fd ["web"] (wJ ad.Web):=by
 refine F.okN Dl (fun vs H Q E h=>?_) (fun cdv A outer s H vs Q E hr h=>?_)
 ·obtain⟨x,tp,n,ms,rfl,_⟩:=h
  rfl
 ·obtain⟨x,tp,n,ms,rfl,hW,hok,q⟩:=h
  have hs:sizeLine=16777216:=sizeLine_eq;obtain⟨⟨dx,hx⟩,htp⟩:=id hW;obtain⟨hne,h64,hn,hxs,hnd⟩:=id hok;have ulen:∀ ls:List (List Nat),(uniq ls).length<=ls.length:=fun ls=>kJ ls _
  refine⟨_,(aF (bA (aN (lE rfl) (by rfl) tt.b_sorted dt (aA (aL Pa (dH (nF rfl) (by rfl) tt.b_set (by decide +kernel) (aA (dU xH rfl (uJ (rC (pv 0) rfl)) (fun cl C s' H' fp=>(aU C_begin_of hr bQ (aA (pv 0) aD)))) aD)) (dH (nF rfl) (by rfl) tt.b_set (by decide +kernel) (aA (dU wP rfl (uJ (rC (pv 0) rfl)) (fun cl C s' H' fp=>(aU C_end_of hr bQ (aA (pv 0) aD)))) aD))) aD)))),?_⟩
  (try rw[dS]);(try rw[cxK1])
  refine⟨_,rfl,x,ad.Web,dx,_,_,rfl,hx,tt.cl_Web,tt.na_Web_words,qN _ _,tp,rfl,⟨_,SqT.of htp⟩,?_⟩;refine jC (fun v=>T (beg (unT v))) (iA (SqT.of htp)) (by rw[aR];omega) (fun v H2 hv s2 N hN=>?_) fun D1 H2 hD1 s2 hd2=>?_
  ·obtain⟨l,hl,rfl⟩:=ar.mp hv
   have hll:=(hxs l hl).1;have z:=hN H2 (aM.refl _);rw[dP] at z;exact⟨_,rfl,l,rfl,⟨by omega,by omega⟩,z⟩
  rw[fU (f:=fun l=>T (beg l)),show ms.map (fun l=>T (beg l))=(ms.map beg).map T by rw[bf];rfl] at hd2;refine⟨D1,ms.map beg,rfl,SqL.of hd2,(by rw[aR];omega),fun S1 hS1=>?_⟩;have s3:=s2.trans (aE (o:=kW w S1 (uniq (ms.map beg))) hS1);have hd3:upd H2 S1 (kW w S1 (uniq (ms.map beg))) S1=some (kW w S1 (uniq (ms.map beg))):=aB;refine⟨_,rfl,x,ad.Web,dx,_,_,rfl,s3 x _ hx,tt.cl_Web,tt.na_Web_words,qN _ _,tp,rfl,⟨_,SqT.of (s3 tp _ htp)⟩,?_⟩;refine jC (fun v=>T ((unT v).drop 1)) (iA (SqT.of (s3 tp _ htp))) (by rw[aR];omega) (fun v H4 hv s4 N hN=>?_) fun D2 H4 hD2 s4 hd4=>?_
  ·obtain⟨l,hl,rfl⟩:=ar.mp hv
   have hll:=(hxs l hl).1;have z:=hN H4 (aM.refl _);rw[dP] at z;exact⟨_,rfl,l,rfl,⟨by omega,by omega⟩,z⟩
  rw[fU (f:=fun l=>T (l.drop 1)),show ms.map (fun l=>T (l.drop 1))=(ms.map fun l=>l.drop 1).map T by rw[bf];rfl] at hd4;refine⟨D2,ms.map (fun l=>l.drop 1),rfl,SqL.of hd4,(by rw[aR];omega),fun S2 hS2=>?_⟩;have s5:=aE (o:=kW w S2 (uniq (ms.map fun l=>l.drop 1))) hS2;have l1:=ulen (ms.map beg);have l2:=ulen (ms.map fun l=>l.drop 1);rw[aR] at l1 l2;have hS1':=s5 S1 _ (s4 S1 _ hd3);have ne12:S1≠S2:=fun z=>by
   have g:=s4 S1 _ hd3;rw[z,hS2] at g;cases g
  refine⟨S1,S2,_,_,rfl,rfl,ne12,hS1',aB,(fun z=>?_),(by omega),fun D5 qs hD5 hqn hql hqm=>?_⟩
  ·obtain⟨m0,hm0⟩:∃ m0,m0∈ms:=List.exists_mem_of_ne_nil _ hne
   have:beg m0∈uniq (ms.map beg):=(fJ _ _).mpr (cy hm0)
   rw[z] at this;cases this
  have s6:=aE (o:=kW w D5 qs) hD5;refine⟨D5,qs,rfl,aB,(Sd (p:=[]) hok.2.2.1.2 hqn fun z hz=>.inr ?few),fun ps D6 hD6 hp6 hw6=>?_⟩
  case few =>
   rw[hqm,fJ,fJ,ar,ar] at hz;rcases hz with ⟨l,hl,rfl⟩ | ⟨l,hl,rfl⟩
   ·exact⟨l,hl,.inl rfl⟩
   ·exact⟨l,hl,.inr rfl⟩
  have s7:=aE (o:=.lst (ps.map T)) hD6;have sall:=s3.trans (s4.trans (s5.trans (s6.trans s7)));have hD6':H D6=none:=by
   cases e:H D6 with
   | none=>rfl
   | some o =>
    have g:=(s3.trans (s4.trans (s5.trans s6))) D6 o e;exact absurd (g.symm.trans hD6) (fun z=>nomatch z)
  refine q D6 ps _ hD6' sall aB hw6 (hp6.nodup_iff.mpr hqn) fun z=>?_
  rw[hp6.mem_iff,hqm,fJ,fJ,ar,ar];constructor
  ·rintro (⟨l,hl,rfl⟩ | ⟨l,hl,rfl⟩)
   ·exact⟨l,hl,.inl rfl⟩
   ·exact⟨l,hl,.inr rfl⟩
  ·rintro⟨l,hl,rfl | rfl⟩
   ·exact .inl ⟨l,hl,rfl⟩
   ·exact .inr ⟨l,hl,rfl⟩
theorem pP {xs:List V}{k:Nat}(h:k<=xs.length):cP xs (some (k:Int)) none=xs.drop k:=by
 unfold cP;rw[HT.eS,show HT.sIx xs.length 0 (some (k:Int))=min k xs.length from HT.eY _ _ k,eg h,dm (by rw[bn];exact af _)]
theorem Ox {xs:List V}{k:Nat}(h:k<=xs.length):cP xs none (some (k:Int))=xs.take k:=by
 unfold cP;rw[HT.eS,jb,jh,HT.eY,eg h]
theorem eP {i:Int}{n:Nat}(h:i.natAbs<=n)(hn:n<2 ^ 8000):Bg i:=d7 h hn
theorem iW {n k:Nat}(h:n<2 ^ k)(hk:k<=8000):n<2 ^ 8000:=bj h (d9 (by decide) hk)
theorem kT {ns:List Int}{j:Nat}(h:j<ns.length):(ns.map V.int)[j]?=some (.int (ns.getD j 0)):=by
 rw[aj,ah,aa h];rfl
theorem SqL.keepTwo {K:ac}{H G:Hp}{a:Addr}{xs:List V}(h:SqL K H a xs)(k:∀ o,H a=some o->G a=some o):SqL K G a xs:=by
 rcases h with (h | ⟨q,h⟩) | h
 ·exact .inl (.inl (k _ h))
 ·exact .inl (.inr ⟨q,k _ h⟩)
 ·exact .inr h
def yK:Sp:=fun vs H Q _=>∃ (num:Int) (pr:Nat),vs=[.int num,.int (pr:Nat)]∧Dt.dD pr∧pr<2 ^ 1000∧num % (pr:Int)≠0∧∀ inv:Int,Dt.Cg pr (inv*num) 1->0<=inv∧inv<pr->Q (.int inv) H
theorem zO {f:Addr}{fd:FuncData}(F:Fun K "inverse" "inverse" nB f fd)(tt:Txt K mg ad):cN P w K mg base (CX1 P w) 1 f fd ["number", "prime"] yK:=by
 refine F.okN cM (fun vs H Q E h=>?_) (fun cdv A outer s H vs Q E hr h=>?_)
 ·obtain⟨num,pr,rfl,_⟩:=h
  rfl
 ·obtain⟨num,pr,rfl,hp,hpl,h0,q⟩:=h
  have hp1:=hp.1;have hpos:(0:Int)<(pr:Int):=by omega
  have h8:=iW hpl (by decide);obtain⟨r,hr'⟩:∃ r:Nat,num % (pr:Int)=r:=⟨(num % pr).toNat,by have:=db num (show (pr:Int)≠0 by omega);omega⟩;have hrl:r<pr:=by have:=ck num hpos;omega
  refine⟨_,(aC (aJ (i:=2) cM.nd rfl (Or.inl rfl) (pv 1))
   (aC (aJ (i:=3) cM.nd rfl (Or.inl rfl) (aL cK (pv 0) (pv 1)))
   (aC (aJ (i:=4) cM.nd rfl (Or.inl rfl) aG)
   (aC (aJ (i:=5) cM.nd rfl (Or.inl rfl) aG)
   (aC (kC PassesOwn.never (aO pD (pv 3) aG (aY _)) (aC (aJ (i:=6) cM.nd rfl (Or.inl rfl) (aL Jz (pv 2) (pv 3)))
   (aC (aJ (i:=7) cM.nd rfl (Or.inl rfl) (aL jP (pv 2) (aL eR (pv 6) (pv 3))))
   (aC (aJ (i:=2) cM.nd rfl (Or.inl rfl) (pv 3))
   (aC (aJ (i:=3) cM.nd rfl (Or.inl rfl) (pv 7))
   (aC (aJ (i:=8) cM.nd rfl (Or.inl rfl) (aL jP (pv 4) (aL eR (pv 6) (pv 5))))
   (aC (aJ (i:=4) cM.nd rfl (Or.inl rfl) (pv 5))
   (aF (aJ (i:=5) cM.nd rfl (Or.inl rfl) (pv 8))))))))))
   (aF (bA (aL cK (pv 5) (pv 1))))))))),?_⟩
  (try rw[dS]);(try rw[cxK1])
  refine⟨_,rfl,?_⟩;refine⟨_,rfl,_,rfl,_,_,rfl,rfl,hpos,?_⟩;refine⟨fun m σ H2=>H2=H∧∃ (last rest:Nat) (lt t:Int) (v6 v7 v8:Option V),m=rest∧Dt.Euc pr num last rest lt t∧(last<=pr∧rest<=pr)∧σ=[some (.int num),some (.int (pr:Nat)),some (.int (last:Nat)),some (.int (rest:Nat)),some (.int lt),some (.int t),v6,v7,v8],
   ⟨_,rfl,pr,r,0,1,none,none,none,rfl,Dt.Euc.init hp hr' (by omega),⟨af _,by omega⟩,by rw[<- hr'];rfl⟩,?_⟩
  rintro m σ H2 ⟨rfl,last,rest,lt,t,v6,v7,v8,rfl,he,⟨hl,hrp⟩,rfl⟩;have hpo:=he.pos;obtain⟨ht,hlt⟩:=he.tle;refine⟨_,rfl,_,rfl,_,rfl,_,rfl,?_⟩;by_cases h1:m=1
  ·refine itN (by rw[decide_eq_true (by omega)];exact ak) ?_
   exact⟨_,rfl,_,rfl,_,_,rfl,rfl,hpos,q _ (he.fin h1) ⟨db _ (by omega),ck _ hpos⟩⟩
  ·refine itP (by rw[decide_eq_false (by omega)];rfl) ?_
   refine⟨_,fun σ' H' z=>z,?_⟩;have hq1:=rh last m;have bm:Bg ((m:Nat):Int):=eP (n:=pr) (by rw[e9];exact hrp) h8;have bq:Bg ((last/m:Nat):Int):=eP (n:=pr) (by rw[e9];omega) h8;refine⟨_,rfl,_,rfl,_,_,rfl,rfl,⟨by show (0:Int)<(m:Int);omega,bm⟩,?_⟩;refine⟨_,rfl,_,rfl,_,rfl,_,_,rfl,rfl,⟨bq,bm⟩,_,_,rfl,rfl,?_⟩;have e1:((last:Nat):Int)-((last/m:Nat):Int)*((m:Nat):Int)=((last % m:Nat):Int):=by
    have h:=congrArg (fun n:Nat=>(n:Int)) (om last m);simp only [oj,iz] at h;rw[gq] at h;omega
   refine⟨_,rfl,?_⟩;refine⟨_,rfl,?_⟩;refine⟨_,rfl,_,rfl,_,rfl,_,_,rfl,rfl,⟨bq,eP ht h8⟩,_,_,rfl,rfl,?_⟩;refine⟨_,rfl,?_⟩;refine⟨_,rfl,?_⟩;have hml:=kl last (show m>0 by omega);exact⟨last % m,hml,rfl,m,last % m,t,_,_,_,_,rfl,he.step h1,⟨hrp,by omega⟩,by rw[<- e1];rfl⟩
def low (back:Int)(pr:Nat)(top row:List Int):List Int:=n6 (fun x y=>x-row.getD 0 0*back % (pr:Int)*y) (row.drop 1) (top.drop 1)
structure xZ (back:Int)(pr n:Nat)(top row:List Int):Prop where
 l1:row.length=n+1
 l2:top.length=n+1
 sz:n<=1000
 pos:0<pr
 ps:pr<2 ^ 1000
 b0:Bg (row.getD 0 0)
 bk:back.natAbs<=pr
 tp:∀ y∈top,y.natAbs<=pr
def My (K:ac):Sp:=fun vs H Q _=>∃ (a b:Addr) (back:Int) (pr n:Nat) (row top:List Int),vs=[.ref a,.ref b,.int back,.int (pr:Nat)]∧SqL K H a (row.map V.int)∧SqL K H b (top.map V.int)∧xZ back pr n top row∧∀ D H',H D=none->aM H H'->H' D=some (.lst ((low back pr top row).map V.int))->Q (.ref D) H'
theorem zL {f:Addr}{fd:FuncData}(F:Fun K "lowered" "lowered" kR f fd)(tt:Txt K mg ad):cN P w K mg base (CX1 P w) 1 f fd ["row", "top", "back", "prime"] (My K):=by
 refine F.okN qX (fun vs H Q E h=>?_) (fun cdv A outer s H vs Q E hr h=>?_)
 ·obtain⟨a,b,back,pr,n,row,top,rfl,_⟩:=h
  rfl
 ·obtain⟨a,b,back,pr,n,row,top,rfl,hA,hB,ok,q⟩:=h
  have hs:sizeLine=16777216:=sizeLine_eq;obtain⟨l1,l2,sz,pos,ps,b0,bk,tp⟩:=ok;have hpos:(0:Int)<(pr:Int):=by omega
  have h8:=iW ps (by decide);have t0:=db (row.getD 0 0*back) (show (pr:Int)≠0 by omega);have t1:=ck (row.getD 0 0*back) hpos;refine⟨_,(aC (aJ (i:=4) qX.nd rfl (Or.inr rfl) (aL cK (aL eR (dC bX (pv 0) aG (fun _ _=>rfl)) (pv 2)) (pv 3)))
   (aC (bU (aO eA (pv 4) aG (aY _)) (aF (bA (aS cC (pv 0) (aX aG) bD))) aV)
   (aF (bA (Jj vU rfl (Ny (by rfl) tt.b_zip (aA (aS cC (pv 0) (aX aG) bD) (aA (aS cC (pv 1) (aX aG) bD) aD))) (fun cl C s' H' fp=>(aL jP (pv 0) (aL eR (pv 6) (pv 1))))))))),?_⟩
  (try rw[dS]);(try rw[cxK1])
  refine⟨_,rfl,a,_,_,_,rfl,rfl,hA,cQ (j:=0) (kT (by omega)),_,rfl,_,_,rfl,rfl,⟨b0,eP bk h8⟩,_,rfl,_,_,rfl,rfl,hpos,?_⟩;refine⟨_,rfl,_,rfl,_,rfl,_,rfl,?_⟩;have cA:cP (row.map V.int) (some (1:Int)) none=(row.drop 1).map V.int:=by rw[jp];exact pP (k:=1) (by rw[aR];omega)
  have cB:cP (top.map V.int) (some (1:Int)) none=(top.drop 1).map V.int:=by rw[jp];exact pP (k:=1) (by rw[aR];omega)
  by_cases hz:row.getD 0 0*back % (pr:Int)=0
  ·refine itP (decide_eq_true hz) ?_
   refine⟨_,rfl,_,rfl,a,_,rfl,hA,fun p hp=>?_⟩;rw[cA];refine q p _ hp (aE hp) ?_;rw[aB]
   congr 3
   unfold low;rw[hz];refine j4 fun i=>?_
   rw[kg];by_cases hi:i<n
   ·rw[aa (l:=row.drop 1) (by rw[bn];omega),aa (l:=top.drop 1) (by rw[bn];omega)]
    show some _=some _;rw[nr,lq]
   ·rw[cp (by rw[bn];omega)]
  ·refine itN (fun z=>hz (of_decide_eq_true z)) ?_
   refine⟨_,rfl,_,rfl,a,_,rfl,hA,fun p1 hp1=>?_⟩;rw[cA];have t1':=aE (o:=.lst ((row.drop 1).map V.int)) hp1;refine⟨_,rfl,_,rfl,b,_,rfl,t1'.seq hB,fun p2 hp2=>?_⟩;rw[cB];have t2':=aE (o:=.lst ((top.drop 1).map V.int)) hp2;refine⟨p1,p2,rfl,⟨_,SqL.of (t2' p1 _ aB)⟩,⟨_,SqL.of aB⟩,?_⟩;refine Hi (fun x y=>match x,y with | .int i,.int j=>.int (i-row.getD 0 0*back % (pr:Int)*j) | _,_=>.non) (SqL.of (t2' p1 _ aB)) (SqL.of aB) (by rw[aR,aR,bn,bn,l1,l2]) (by rw[aR,bn];omega) (fun i x y H' hx hy s' N hN=>?_) fun D H' hD s' hd=>?_
   ·rw[aj] at hx hy
    obtain⟨i1,hi1,rfl⟩:=ba.mp hx;obtain⟨j1,hj1,rfl⟩:=ba.mp hy;have hj2:=tp j1 (lc (az hj1));exact⟨_,rfl,_,rfl,_,rfl,_,_,rfl,rfl,⟨eP (n:=pr) (by omega) h8,eP hj2 h8⟩,_,_,rfl,rfl,hN H' (aM.refl _)⟩
   ·have hD0:H D=none:=by
     cases e:H D with
     | none=>rfl
     | some o=>have:=(t1'.trans t2') D o e;rw[hD] at this;cases this
    refine q D H' hD0 (t1'.trans (t2'.trans s')) ?_;rw[hd]
    congr 3
    unfold low;rw[List.zipWith_map,List.map_zipWith]
def Bc (K:ac):Sp:=fun vs H Q _=>∃ (a:Addr) (ns:List Int),vs=[.ref a]∧SqL K H a (ns.map V.int)∧(∀ H',aM H H'->(∀ x∈ns,x=0)->Q .non H')∧∀ (p:Nat) (H':Hp),aM H H'->p<ns.length->ns.getD p 0≠0->Q (.int (p:Nat)) H'
theorem gG {f:Addr}{fd:FuncData}(F:Fun K "first_other_than_nought" "first_other_than_nought" cX f fd)(tt:Txt K mg ad):cN P w K mg base (CX1 P w) 1 f fd ["numbers"] (Bc K):=by
 refine F.okN cV (fun vs H Q E h=>?_) (fun cdv A outer s H vs Q E hr h=>?_)
 ·obtain⟨a,ns,rfl,_⟩:=h
  rfl
 ·obtain⟨a,ns,rfl,hA,q0,q1⟩:=h
  refine⟨_,(aC (bZ PassesOwn.never rfl (Lp (by rfl) tt.b_enumerate (aA (pv 0) aD)) (Ad rfl (hX (bG (i:=1) cV.nd rfl (Or.inl rfl)) (hX (bG (i:=2) cV.nd rfl (Or.inl rfl)) uX))) (aF (bU (aO pD (pv 2) aG (aY _)) (aF (bA (pv 1))) aV)))
   (aF (bA Os))),?_⟩
  (try rw[dS]);(try rw[cxK1])
  refine⟨_,rfl,a,rfl,⟨_,hA⟩,?_⟩;refine Gi (K:=K) (a:=a) (xs:=ns.map V.int) (fun i σ H2=>aM H H2∧(∀ j,j<i->ns.getD j 0=0)∧∃ v1 v2:Option V,σ=[some (.ref a),v1,v2]) ⟨aM.refl _,fun j hj=>absurd hj (Nat.not_lt_zero j),none,none,rfl⟩ (fun i σ H2 _ h=>h.1.seq hA) ?_ ?_
  ·rintro i x p σ H2 hx hp ⟨s2,hz,v1,v2,rfl⟩
   have hi:i<ns.length:=by have:=(al.mp hx).1;rwa [aR] at this
   rw[kT hi] at hx;obtain rfl:=a5 hx;have t2:=aE (o:=.tup [.int (i:Nat),.int (ns.getD i 0)]) hp;refine⟨p,_,rfl,SqT.of aB,rfl,_,_,rfl,_,_,rfl,rfl,?_⟩;refine⟨_,rfl,_,rfl,_,rfl,_,rfl,?_⟩;by_cases h0:ns.getD i 0=0
   ·refine itN (by rw[decide_eq_true h0];exact ak) ?_
    exact⟨s2.trans t2,fun j hj=>by
     rcases fm j i with z | z
     ·exact hz j z
     ·rw[show j=i by omega];exact h0,_,_,rfl⟩
   ·refine itP (by rw[decide_eq_false h0];rfl) ?_
    exact⟨_,rfl,q1 i _ (s2.trans t2) hi h0⟩
  ·rintro σ H2 ⟨s2,hz,v1,v2,rfl⟩
   rw[aR] at hz;exact q0 H2 s2 fun x hx=>by
    obtain⟨j,hj⟩:=fb hx;have hjl:=(al.mp hj).1
    have:=hz j hjl
    rwa [ah,hj] at this
structure Fn (M:List (List Int))(n pr E:Nat):Prop where
 len:M.length=n
 row:∀ r∈M,r.length=n
 sz:n<=100
 pm:Dt.dD pr
 ps:pr<2 ^ 1000
 be:∀ r∈M,∀ x∈r,x.natAbs<=E
 bd:E+n*(pr*pr)<2 ^ 8000
def Jp (K:ac):Sp:=fun vs H Q _=>∃ (a:Addr) (as:List Addr) (M:List (List Int)) (n pr E:Nat),vs=[.ref a,.int (pr:Nat)]∧SqL K H a (as.map V.ref)∧dI K H as M∧Fn M n pr E∧∀ (r:Int) (H':Hp),aM H H'->0<=r∧r<pr->Dt.Cg pr r (Dt.det n (Dt.ent M))->Q (.int r) H'
theorem lX {ns:List Int}{j:Nat}(h:j<ns.length):ns.getD j 0∈ns:=by
 rw[ah,aa h];exact b6 h
theorem Bp {back:Int}{pr n:Nat}{top row:List Int}(h:xZ back pr n top row):(low back pr top row).length=n:=by
 unfold low
 have:=h.l1
 have:=h.l2
 rw[ph,bn,bn];omega
theorem Bh {back:Int}{pr n:Nat}{top row:List Int}(h:xZ back pr n top row){k:Nat}(hk:k<n):(low back pr top row).getD k 0=row.getD (k+1) 0-row.getD 0 0*back % (pr:Int)*top.getD (k+1) 0:=by
 have h1:=h.l1;have h2:=h.l2;unfold low;rw[ah,kg,qc,qc,iw 1 k,aa (show k+1<row.length by omega),aa (show k+1<top.length by omega),ah (l:=row) (i:=k+1),aa (show k+1<row.length by omega),ah (l:=top),aa (show k+1<top.length by omega)];rfl
theorem Lz {back:Int}{pr n E:Nat}{top row:List Int}(h:xZ back pr n top row)(hE:∀ x∈row,x.natAbs<=E):∀ x∈low back pr top row,x.natAbs<=E+pr*pr:=fun x hx=>by
 obtain⟨k,hk⟩:=fb hx;have hkl:=(al.mp hk).1;rw[Bp h] at hkl;have h1:=h.l1;have h2:=h.l2;have e:=Bh h hkl;rw[ah,hk] at e;have e:x=_:=e;have b1:=hE _ (lX (ns:=row) (j:=k+1) (by omega));have b2:=h.tp _ (lX (ns:=top) (j:=k+1) (by omega));have hp:=h.pos;have t0:=db (row.getD 0 0*back) (show (pr:Int)≠0 by omega);have t1:=ck (row.getD 0 0*back) (show (0:Int)<pr by omega);have b3:=qk (row.getD (k+1) 0) (row.getD 0 0*back % (pr:Int)*top.getD (k+1) 0);rw[lz] at b3;have b4:(row.getD 0 0*back % (pr:Int)).natAbs*(top.getD (k+1) 0).natAbs<=pr*pr:=fj (by omega) b2;rw[e];omega
theorem kY {f:Addr}{fd:FuncData}(F:Fun K "determinant_rest" "determinant_rest" cG f fd)(tt:Txt K mg ad)(C_first_other_than_nought:Cal P w K mg base (CX1 P w) "first_other_than_nought" 1 ["numbers"] (Bc K))(C_inverse:Cal P w K mg base (CX1 P w) "inverse" 1 ["number", "prime"] yK)(C_lowered:Cal P w K mg base (CX1 P w) "lowered" 1 ["row", "top", "back", "prime"] (My K)):cN P w K mg base (CX1 P w) 2 f fd ["square", "prime"] (Jp K):=by
 refine F.okN bH (fun vs H Q E h=>?_) (fun cdv A outer s H vs Q E hr h=>?_)
 ·obtain⟨a,as,M,n,pr,E0,rfl,_⟩:=h
  rfl
 ·obtain⟨a,as,M,n,pr,B,rfl,hA,hR,ok,q⟩:=h
  have hs:sizeLine=16777216:=sizeLine_eq;have hu:=j7 (eC hr);obtain⟨len,row,sz,pm,ps,be,bd⟩:=ok;have hp1:=pm.1;have hpos:(0:Int)<(pr:Int):=by omega
  have h8:=iW ps (by decide);refine⟨_,(aC (aJ (i:=2) bH.nd rfl (Or.inl rfl) (dH uA (by rfl) tt.b_list (by decide +kernel) (aA (pv 0) aD)))
   (aC (aJ (i:=3) bH.nd rfl (Or.inl rfl) aG)
   (aC (kC PassesOwn.never (aO (Ie K rfl hu) (pv 2) (bT aD) (aY _)) (aC (aJ (i:=4) bH.nd rfl (Or.inl rfl) (aU C_first_other_than_nought hr bQ (aA (dU jJ rfl (bL (pv 2)) (fun cl C s' H' fp=>(aL cK (dC (tI K rfl) (pv 0) aG (fun _ _=>rfl)) (pv 2)))) aD)))
   (aC (bU (vV (Op (pv 4))) (aF (bA aG)) aV)
   (aC (aJ (i:=5) bH.nd rfl (Or.inr rfl) (dU jF rfl (bL (dC bX (pv 2) (pv 4) (fun _ _=>rfl))) (fun cl C s' H' fp=>(aL cK (pv 0) (pv 2)))))
   (aC (aJ (i:=6) bH.nd rfl (Or.inr rfl) (aU C_inverse hr bQ (aA (dC bX (pv 5) aG (fun _ _=>rfl)) (aA (pv 1) aD))))
   (aC (aJ (i:=3) bH.nd rfl (Or.inl rfl) (aL cK (aL eR (pv 3) (dC bX (pv 5) aG (fun _ _=>rfl))) (pv 1)))
   (aC (Qq (t':=(fun D σ H=>∃ (x0 x2:V) (pr:Nat) (rst:Int) (p:Nat) (v5 v6:Option V),σ=[some x0,some (.int (pr:Nat)),some x2,some (.int rst),some (.int (p:Nat)),v5,v6]∧D.nx [some x0,some (.int (pr:Nat)),some x2,some (.int (if p % 2=1 then (pr:Int)-rst else rst)),some (.int (p:Nat)),v5,v6] H)) (bU (aO eA (aL cK (pv 4) aG) aG (aY _)) (aF (aJ (i:=3) bH.nd rfl (Or.inl rfl) (aL jP (pv 1) (pv 3)))) aV) ?rA)
   (aF (yO (i:=2) jI rfl (bL (aL cY (aS cC (pv 2) bD (aX (pv 4))) (aS cC (pv 2) (aX (aL cU (pv 4) aG)) bD))) (fun cl C s' H' fp=>(aU C_lowered hr bQ (aA (pv 0) (aA (pv 6) (aA (pv 7) (aA (pv 2) aD)))))) bH.nd rfl rfl)))))))))
   (aF (bA (pv 3)))))),?_⟩
  (try rw[dS]);(try rw[cxK1])
  case rA =>
   rintro D σ H ⟨x0,x2,pr,rst,p,v5,v6,rfl,nxt⟩;refine⟨_,rfl,_,_,rfl,rfl,(by show (0:Int)<2;decide),_,rfl,_,rfl,_,rfl,?_⟩;by_cases h2:p % 2=1
   ·refine itP (decide_eq_true (by omega)) ?_
    refine⟨_,rfl,_,rfl,_,_,rfl,rfl,?_⟩;rw[if_pos h2] at nxt;exact nxt
   ·refine itN (fun z=>h2 (by have:=of_decide_eq_true z;omega)) ?_
    rw[if_neg h2] at nxt;exact nxt
  refine⟨_,rfl,a,_,rfl,.inl hA,fun L0 hL0=>?_⟩;have t0:=aE (o:=.lst (as.map V.ref)) hL0;refine⟨fun m σ G=>∃ (Lr:Addr) (bs:List Addr) (N:List (List Int)) (k:Nat) (rest:Int) (v4 v5 v6:Option V),aM H G∧G Lr=some (.lst (bs.map V.ref))∧dI K G bs N∧N.length=m∧(∀ r∈N,r.length=m)∧m+k=n∧(∀ r∈N,∀ x∈r,x.natAbs<=B+k*(pr*pr))∧(0<rest∧rest<pr)∧Dt.Cg pr (rest*Dt.det m (Dt.ent N)) (Dt.det n (Dt.ent M))∧σ=[some (.ref a),some (.int (pr:Nat)),some (.ref Lr),some (.int rest),v4,v5,v6],
   ⟨n,L0,as,M,0,1,none,none,none,t0,aB,hR.on t0,len,row,by omega,fun r hr x hx=>by rw[Nat.zero_mul];exact be r hr x hx,⟨by decide,by omega⟩,by rw[ir];exact Dt.Cg.refl _,rfl⟩,?_⟩
  rintro m σ G ⟨Lr,bs,N,k,rest,v4,v5,v6,sG,hL,hN,hNl,hNr,hmk,hNb,hrest,hcg,rfl⟩;have hbl:=hN.1;refine⟨_,rfl,(by show 0<=sizeLine;omega),fun E1 hE1=>?_⟩;have tE:=aE (o:=.lst []) hE1;refine⟨Lr,E1,_,rfl,rfl,SqL.of (tE Lr _ hL),SqL.of aB,_,rfl,?_⟩
  cases m with
  | zero =>
   obtain rfl:bs=[]:=cj.mp (by omega);refine nK ?_;refine⟨_,rfl,q rest _ (sG.trans tE) ⟨by omega,hrest.2⟩ ?_⟩;have e:rest*Dt.det 0 (Dt.ent N)=rest:=k7 rest;rw[e] at hcg;exact hcg
  | succ m =>
   refine itP (by cases bs with | nil=>rw[lh] at hbl;omega | cons y r=>rfl) ?_;refine⟨_,fun σ' H' z=>z,?_⟩;have hL2:=tE Lr _ hL;have hN2:=hN.on tE;generalize upd G E1 (.lst [])=G2 at tE hL2 hN2;refine⟨_,rfl,Lr,rfl,⟨_,SqL.of hL2⟩,?_⟩;refine Qi (fun r=>r.getD 0 0 % (pr:Int)) (cF (SqL.of hL2)) hN2 (by omega) (fun a' r G' hrm hS s' N' hN'=>?_) fun D1 G3 hD1 s3 hd3=>?_
   ·exact⟨_,rfl,a',_,_,_,rfl,rfl,hS,cQ (j:=0) (kT (by rw[hNr r hrm];omega)),_,rfl,_,_,rfl,rfl,hpos,hN' G' (aM.refl _)⟩
   have hL3:=s3 Lr _ hL2;have hN3:=hN2.on s3;have sG3:=sG.trans (tE.trans s3);refine⟨D1,_,rfl,SqL.of hd3,fun G4 s4 hall=>?_,fun p G4 s4 hp hne=>?_⟩
   ·refine⟨_,rfl,_,rfl,Jr ?_⟩
    refine q 0 G4 (sG3.trans s4) ⟨Int.le_refl _,hpos⟩ ?_;have h0:=Dt.Qt (m:=pr) (M:=N) (n:=m) (fun r hrm=>Int.dvd_of_emod_eq_zero (hall _ (ar.mpr ⟨r,hrm,rfl⟩))) hNl;have h1:=(Dt.Cg.refl (m:=pr) rest).mul h0;rw[gb] at h1;exact h1.symm.trans hcg
   ·rw[aR] at hp
    obtain⟨rp,hrp⟩:∃ rp,N[p]?=some rp:=⟨_,aa hp⟩;obtain⟨bp,hbp⟩:∃ bp,bs[p]?=some bp:=⟨_,aa (by omega)⟩;have hrpm:=az hrp;have hrl:=hNr rp hrpm;have hne2:rp.getD 0 0 % (pr:Int)≠0:=by
     rw[ah,aj,hrp] at hne;exact hne
    refine⟨_,rfl,_,rfl,nK ?_⟩;have hL4:=s4 Lr _ hL3;have hN4:=hN3.on s4;have hS4:=hN4.2 p bp rp hbp hrp;refine⟨_,rfl,_,rfl,Lr,_,_,_,rfl,rfl,SqL.of hL4,cQ (j:=p) (by rw[aj,hbp];rfl),bp,rfl,⟨_,hS4⟩,?_⟩;refine jC (fun v=>match v with | .int i=>.int (i % (pr:Int)) | _=>.non) (cF hS4) (by rw[aR];omega) (fun v G' hv s' N' hN'=>?_) fun D2 G5 hD2 s5 hd5=>?_
    ·obtain⟨i,hi,rfl⟩:=ar.mp hv
     exact⟨_,rfl,_,rfl,_,_,rfl,rfl,hpos,hN' G' (aM.refl _)⟩
    have hd5:G5 D2=some (.lst ((rp.map fun i=>i % (pr:Int)).map V.int)):=by rw[hd5,bf,bf];rfl
    have htl:(rp.map fun i=>i % (pr:Int)).length=m+1:=by rw[aR,hrl]
    have htop:∀ k,k<m+1->(rp.map fun i=>i % (pr:Int)).getD k 0=rp.getD k 0 % (pr:Int):=fun k hk=>by
     rw[ah,aj,ah,aa (by omega)];rfl
    have htb:∀ y∈rp.map (fun i=>i % (pr:Int)),y.natAbs<=pr:=fun y hy=>by
     obtain⟨i,_,rfl⟩:=ar.mp hy
     have:=db i (show (pr:Int)≠0 by omega)
     have:=ck i hpos
     omega
    have ht0:(rp.map fun i=>i % (pr:Int)).getD 0 0 % (pr:Int)≠0:=by rw[htop 0 (by omega),Int.emod_emod];exact hne2
    have htc:∀ k,k<m+1->Dt.Cg pr ((rp.map fun i=>i % (pr:Int)).getD k 0) ((N.getD p []).getD k 0):=fun k hk=>by
     rw[htop k hk,ah (l:=N),hrp];exact Dt.nH _
    generalize rp.map (fun i=>i % (pr:Int))=top at hd5 htl htop htb ht0 htc;have sG5:=sG3.trans (s4.trans s5);have hL5:=s5 Lr _ hL4;have hN5:=hN4.on s5;refine⟨_,rfl,D2,_,_,_,rfl,rfl,SqL.of hd5,cQ (j:=0) (kT (by omega)),_,rfl,top.getD 0 0,pr,rfl,pm,ps,ht0,fun inv hinv hib=>?_⟩;have ht0b:=htb _ (lX (ns:=top) (j:=0) (by omega));refine⟨_,rfl,_,rfl,D2,_,_,_,rfl,rfl,SqL.of hd5,cQ (j:=0) (kT (by omega)),_,_,rfl,rfl,⟨eP (n:=pr) (by omega) h8,eP ht0b h8⟩,_,rfl,_,_,rfl,rfl,hpos,?_⟩;refine⟨_,_,pr,_,p,_,_,rfl,?_⟩;have hpl:p<=bs.length:=by omega
    have c1:cP (bs.map V.ref) none (some ((p:Nat):Int))=(bs.take p).map V.ref:=by rw[jq];exact Ox (by rw[aR];omega)
    have c2:cP (bs.map V.ref) (some ((p:Nat)+1:Int)) none=(bs.drop (p+1)).map V.ref:=by rw[jp];exact pP (k:=p+1) (by rw[aR];omega)
    refine⟨_,rfl,_,rfl,_,rfl,Lr,_,rfl,SqL.of hL5,fun p1 hp1=>?_⟩;rw[c1];have u1:=aE (o:=.lst ((bs.take p).map V.ref)) hp1;refine⟨_,rfl,_,rfl,_,_,rfl,rfl,_,rfl,Lr,_,rfl,SqL.of (u1 Lr _ hL5),fun p2 hp2=>?_⟩;rw[c2];have u2:=aE (o:=.lst ((bs.drop (p+1)).map V.ref)) hp2;refine⟨p1,p2,_,_,rfl,rfl,SqL.of (u2 p1 _ aB),SqL.of aB,(by rw[aR,aR,a8,bn];omega),fun p3 hp3=>?_⟩;rw[show (bs.take p).map V.ref++(bs.drop (p+1)).map V.ref=(bs.eraseIdx p).map V.ref by rw[<- ax,List.eraseIdx_eq_take_drop_succ]];have u3:=aE (o:=.lst ((bs.eraseIdx p).map V.ref)) hp3;have u123:=u1.trans (u2.trans u3);refine⟨p3,rfl,⟨_,SqL.of aB⟩,?_⟩;have hlok:∀ r∈N,xZ inv pr m top r:=fun r hrm=>⟨hNr r hrm,htl,by omega,by omega,ps,eP (hNb r hrm _ (lX (by rw[hNr r hrm];omega))) (d7 (jk (gg _ (show k<=n by omega)) B) bd),by omega,htb⟩
    have hsub:∀ r∈N.eraseIdx p,r∈N:=fun r hr=>List.mem_of_mem_eraseIdx hr
    refine Qz (low inv pr top) (cF (SqL.of aB)) ((hN5.erase p).on u123) (by rw[g7];split <;> omega) (fun a' r G' hrm hS s' N' hN'=>?_) fun D4 cs G6 hD4 s6 hd6 _ hR6=>?_
    ·exact⟨_,rfl,_,rfl,_,rfl,_,rfl,a',D2,inv,pr,m,r,top,rfl,hS,SqL.of (s' D2 _ (u123 D2 _ hd5)),hlok r (hsub r hrm),fun D G'' hD s'' hd=>hN' D G'' s'' hD hd⟩
    ·have hel:=Dt.elim (m:=pr) (n:=m) (p:=p) (M:=N) (top:=top) (back:=inv) (t:=fun r=>r.getD 0 0*inv % (pr:Int)) (low:=low inv pr top) (by omega) hNl htc (by rw[gq];exact hinv) (fun r _=>Dt.nH _) fun r hrm k hk=>Bh (hlok r hrm) hk
     obtain⟨r1,r2⟩:=Dt.Cj hrest hinv hel hcg;refine⟨m,gu m,D4,cs,(N.eraseIdx p).map (low inv pr top),k+1,_,_,_,_,sG5.trans (u123.trans s6),hd6,hR6,by rw[aR,g7,if_pos (by omega)];omega,fun r hr=>?_,by omega,fun r hr=>?_,r1,r2,rfl⟩
     ·obtain⟨r',hr',rfl⟩:=ar.mp hr
      exact Bp (hlok r' (hsub r' hr'))
     ·obtain⟨r',hr',rfl⟩:=ar.mp hr
      rw[gt,gf,<- Nat.add_assoc];exact Lz (hlok r' (hsub r' hr')) (hNb r' (hsub r' hr'))
structure vB (M:List (List Int))(n:Nat):Prop where
 len:M.length=n
 row:∀ r∈M,r.length=n
 sz:n<=64
 sm:∀ r∈M,Dt.rs n r<=2 ^ 110
theorem vB.part {M:List (List Int)}{n:Nat}(h:vB M n)(i:Nat):Dt.pL ((M.take i).map (Dt.rs n))<2 ^ 8000:=by
 have h1:=Dt.Hx (R:=2 ^ 110) (l:=(M.take i).map (Dt.rs n)) fun x hx=>by
  obtain⟨r,hr,rfl⟩:=ar.mp hx;exact h.sm r (lf hr)
 rw[aR,a8,<- jt] at h1
 have:=h.len
 have:=h.sz
 exact d7 h1 (o8 (by decide) (by omega))
def Bl (K:ac):Sp:=fun vs H Q _=>∃ (a:Addr) (as:List Addr) (M:List (List Int)) (n:Nat),vs=[.ref a]∧SqL K H a (as.map V.ref)∧dI K H as M∧vB M n∧∀ H',aM H H'->Q (.int (Dt.pL (M.map (Dt.rs n)):Nat)) H'
theorem qJ {f:Addr}{fd:FuncData}(F:Fun K "greatest_of" "greatest_of" fH f fd)(tt:Txt K mg ad):cN P w K mg base (CX1 P w) 1 f fd ["square"] (Bl K):=by
 refine F.okN eX (fun vs H Q E h=>?_) (fun cdv A outer s H vs Q E hr h=>?_)
 ·obtain⟨a,as,M,n,rfl,_⟩:=h
  rfl
 ·obtain⟨a,as,M,n,rfl,hA,hR,ok,q⟩:=h
  have hs:sizeLine=16777216:=sizeLine_eq;have hrl:=hR.1;have hlen:=ok.len;have hsz:=ok.sz;refine⟨_,(aC (aJ (i:=1) eX.nd rfl (Or.inl rfl) aG)
   (aC (bZ PassesOwn.never rfl (bL (pv 0)) (bG (i:=2) eX.nd rfl (Or.inl rfl)) (aF (aJ (i:=1) eX.nd rfl (Or.inl rfl) (aL eR (pv 1) (aN (Eu rfl) (by rfl) tt.b_sum PyProof.Rows.boot_sum (aA (dU nU rfl (bL (pv 2)) (fun cl C s' H' fp=>(aN Gx (by rfl) tt.b_abs PyProof.Rows.boot_abs (aA (pv 0) aD)))) aD))))))
   (aF (bA (pv 1))))),?_⟩
  (try rw[dS]);(try rw[cxK1])
  refine⟨_,rfl,a,rfl,⟨_,hA⟩,?_⟩;refine cD (K:=K) (a:=a) (xs:=as.map V.ref) (fun i σ G=>aM H G∧∃ v2:Option V,σ=[some (.ref a),some (.int (Dt.pL ((M.take i).map (Dt.rs n)):Nat)),v2]) ⟨aM.refl _,none,rfl⟩ (fun i σ G _ h=>h.1.seq hA) ?_ ?_
  ·rintro i v σ G hi ⟨sG,v2,rfl⟩
   obtain⟨a',r,rfl,hr',hS⟩:=(hR.on sG).at hi;have hrm:=az hr';have hrl2:=ok.row r hrm;refine⟨_,rfl,_,rfl,a',rfl,⟨_,hS⟩,?_⟩;refine jC (fun v=>match v with | .int i=>.int (if i<0 then -i else i) | _=>.non) (cF hS) (by rw[aR];omega) (fun v G' hv s' N' hN'=>?_) fun D2 G5 hD2 s5 hd5=>?_
   ·obtain⟨i,hi,rfl⟩:=ar.mp hv
    exact⟨_,rfl,_,rfl,hN' G' (aM.refl _)⟩
   have hd5:G5 D2=some (.lst ((r.map fun i=>if i<0 then -i else i).map V.int)):=by rw[hd5,bf,bf];rfl
   refine⟨D2,_,rfl,SqL.of hd5,?_⟩;rw[Dt.Lv hrl2];have e:Dt.pL ((M.take (i+1)).map (Dt.rs n))=Dt.pL ((M.take i).map (Dt.rs n))*Dt.rs n r:=by rw[br,hr',ax];exact Dt.Bv _ _
   refine⟨_,_,rfl,rfl,⟨eP (by rw[e9];exact af _) (ok.part i),eP (n:=2 ^ 110) (by rw[e9];exact ok.sm r hrm) (iW (k:=111) (by decide +kernel) (by decide))⟩,?_⟩;refine⟨sG.trans s5,some (.ref a'),?_⟩;rw[e,iz];rfl
  ·rintro σ G ⟨sG,v2,rfl⟩
   rw[aR,dm (by omega)];exact⟨_,rfl,q G sG⟩
def kts:List Int:=[133,211,598,652,721,850,1282,1417,1582,1681,1726,1837,1885,2017,2377,2383,2452,2476,2530,2611,2662,2698,2773,2878,2917,2980,2998,3082,3238,3250,3343,3421,3427,3670,3817,4162,4252,4447,4468,4621,4630,4747,4867,4891,4915,5128,5143,5236,5401,5587,5650,5803,5833,5923,5986,6202,6235,6286,6496,6526,6736,7093,7561,7696,7831,7855,7882,7927,8143,8248]
def Bo:Sp:=fun vs H Q _=>∃ (j:Nat) (last:Int),vs=[.int (j:Nat),.int last]∧j<7∧Q (.int (kts.getD j 0)) H
theorem nZ {f:Addr}{fd:FuncData}(F:Fun K "further_times" "further_times" fO f fd)(tt:Txt K mg ad):cN P w K mg base (CX1 P w) 1 f fd ["place", "last"] Bo:=by
 refine F.okN nV (fun vs H Q E h=>?_) (fun cdv A outer s H vs Q E hr h=>?_)
 ·obtain⟨j,last,rfl,_⟩:=h
  rfl
 ·obtain⟨j,last,rfl,hj,q⟩:=h
  have hkt:SqT K H ad.KNOWN_TIMES (kts.map V.int):=SqT.tupIs tt.kt;have hkl:(kts.map V.int).length=70:=rfl;refine⟨_,(aC (bU (aO yH (pv 0) (aN aP (by rfl) tt.b_len bc (aA (eK (v:=.ref ad.KNOWN_TIMES) (by rfl) tt.m_KNOWN_TIMES rfl) aD)) (aY _)) (aF (bA (dC Ot (eK (v:=.ref ad.KNOWN_TIMES) (by rfl) tt.m_KNOWN_TIMES rfl) (pv 0) (fun _ _=>rfl)))) aV)
   Iw),?_⟩
  (try rw[dS]);(try rw[cxK1])
  refine⟨_,rfl,ad.KNOWN_TIMES,_,rfl,.inr hkt,_,_,rfl,rfl,_,rfl,?_⟩;rw[hkl];refine itP (decide_eq_true (by omega)) ?_;exact⟨_,rfl,ad.KNOWN_TIMES,_,_,_,rfl,rfl,hkt,cQ (j:=j) (kT (by show j<70;omega)),q⟩
theorem Sl:∀ j,j<7->kts.getD j 0*6277101735386680763835789423207666416102355444464034512896+1=((Dt.pr j:Nat):Int):=by decide +kernel
theorem Pb:∀ j,j<7->(kts.getD j 0).natAbs<2 ^ 20:=by decide +kernel
def Mn (K:ac):Sp:=fun vs H Q _=>∃ (a:Addr) (as:List Addr) (M:List (List Int)) (n:Nat),vs=[.ref a]∧SqL K H a (as.map V.ref)∧dI K H as M∧vB M n∧2*Dt.pL (M.map (Dt.rs n))<Dt.md 7∧∀ H',aM H H'->Q (.int (Dt.det n (Dt.ent M))) H'
theorem Pp {n p:Nat}(hn:n<=64)(hp:p<2 ^ 250):2 ^ 110+n*(p*p)<2 ^ 8000:=by
 have h1:n*(p*p)<=64*(2 ^ 250*2 ^ 250):=fj hn (fj (dv hp) (dv hp));exact d7 (jk h1 _) (by decide +kernel)
theorem vB.rest {M:List (List Int)}{n p:Nat}(h:vB M n)(hp:Dt.dD p)(hl:p<2 ^ 250):Fn M n p (2 ^ 110) :=
 ⟨h.len,h.row,a7 h.sz (by decide),hp,bj hl (d9 (by decide) (by decide)),fun r hr x hx=>a7 (Dt.Pq (h.row r hr) hx) (h.sm r hr),Pp h.sz hl⟩
theorem pW {f:Addr}{fd:FuncData}(F:Fun K "determinant" "determinant" gZ f fd)(tt:Txt K mg ad)(C_greatest_of:Cal P w K mg base (CX1 P w) "greatest_of" 1 ["square"] (Bl K))(C_determinant_rest:Cal P w K mg base (CX1 P w) "determinant_rest" 2 ["square", "prime"] (Jp K))(C_further_times:Cal P w K mg base (CX1 P w) "further_times" 1 ["place", "last"] Bo)(C_inverse:Cal P w K mg base (CX1 P w) "inverse" 1 ["number", "prime"] yK) :
  cN P w K mg base (CX1 P w) 3 f fd ["square"] (Mn K):=by
 refine F.okN bK (fun vs H Q E h=>?_) (fun cdv A outer s H vs Q E hr h=>?_)
 ·obtain⟨a,as,M,n,rfl,_⟩:=h
  rfl
 ·obtain⟨a,as,M,n,rfl,hA,hR,ok,hlt,q⟩:=h
  have hs:sizeLine=16777216:=sizeLine_eq;have hdet:=Dt.Pl (M:=M) ok.len;have hbnd:=ok.part n;rw[dm (by rw[ok.len];exact af _)] at hbnd;generalize hB:Dt.pL (M.map (Dt.rs n))=B at hlt hdet hbnd;generalize hDD:Dt.det n (Dt.ent M)=DD at q hdet;have bB:Bg ((B:Nat):Int):=eP (by rw[e9];exact af _) hbnd;refine⟨_,(aC (aJ (i:=1) bK.nd rfl (Or.inl rfl) (aU C_greatest_of hr bQ (aA (pv 0) aD)))
   (aC (aJ (i:=2) bK.nd rfl (Or.inl rfl) (aU C_determinant_rest hr bQ (aA (pv 0) (aA (eK (by rfl) tt.g_FIRST_PRIME tt.r_FIRST_PRIME) aD))))
   (aC (aJ (i:=3) bK.nd rfl (Or.inl rfl) (eK (by rfl) tt.g_FIRST_PRIME tt.r_FIRST_PRIME))
   (aC (aJ (i:=4) bK.nd rfl (Or.inl rfl) aG)
   (aC (aJ (i:=5) bK.nd rfl (Or.inl rfl) aG)
   (aC (kC PassesOwn.never (aO Rz (pv 3) (aL eR aG (pv 1)) (aY _)) (aC (aJ (i:=5) bK.nd rfl (Or.inl rfl) (aU C_further_times hr bQ (aA (pv 4) (aA (pv 5) aD))))
   (aC (aJ (i:=4) bK.nd rfl (Or.inl rfl) (aL cU (pv 4) aG))
   (aC (aJ (i:=6) bK.nd rfl (Or.inl rfl) (aL cU (aL eR (pv 5) (eK (by rfl) tt.g_STEP tt.r_STEP)) aG))
   (aC (aJ (i:=7) bK.nd rfl (Or.inl rfl) (aL jP (aU C_determinant_rest hr bQ (aA (pv 0) (aA (pv 6) aD))) (pv 2)))
   (aC (aJ (i:=2) bK.nd rfl (Or.inl rfl) (aL cU (pv 2) (aL eR (aL cK (aL eR (pv 7) (aU C_inverse hr bQ (aA (pv 3) (aA (pv 6) aD)))) (pv 6)) (pv 3))))
   (aF (aJ (i:=3) bK.nd rfl (Or.inl rfl) (aL eR (pv 3) (pv 6))))))))))
   (aC (bU (aO kB (pv 2) (pv 1) (aY _)) (aF (bA (aL jP (pv 2) (pv 3)))) aV)
   (aF (bA (pv 2)))))))))),?_⟩
  (try rw[dS]);(try rw[cxK1])
  refine⟨_,rfl,a,as,M,n,rfl,hA,hR,ok,fun G1 s1=>?_⟩;rw[hB];refine⟨_,rfl,a,as,M,n,2305843009213693951,2 ^ 110,rfl,s1.seq hA,hR.on s1,ok.rest Dt.Td (by decide +kernel),fun res G2 s2 hres hcg=>?_⟩;rw[hDD] at hcg;refine⟨fun m σ G=>∃ (j:Nat) (res times:Int) (v6 v7:Option V),m=7-j∧j<=7∧aM H G∧(0<=res∧res<(Dt.md j:Nat))∧Dt.Cg (Dt.md j:Nat) res DD∧σ=[some (.ref a),some (.int (B:Nat)),some (.int res),some (.int (Dt.md j:Nat)),some (.int (j:Nat)),some (.int times),v6,v7],
   ⟨_,0,res,0,none,none,rfl,by omega,s1.trans s2,hres,hcg,rfl⟩,?_⟩
  rintro m σ G ⟨j,res,times,v6,v7,rfl,hj,sG,hres,hcg,rfl⟩;refine⟨_,rfl,_,rfl,_,_,rfl,rfl,⟨eP (n:=2) (by decide) (by decide +kernel),bB⟩,_,_,rfl,rfl,_,rfl,?_⟩;by_cases hle:Dt.md j<=2*B
  ·refine itP (decide_eq_true (by omega)) ?_
   have hj7:j<7:=by
    rcases fm j 7 with z | z
    ·exact z
    ·rw[show j=7 by omega] at hle
     omega
   obtain⟨k1,k2,k3,k4⟩:=Dt.Rg j hj7;have ePr:=Sl j hj7;have hpp:=Dt.Hn hj7;have hp1:=hpp.1;have l1:=iW k1 (by decide);have l3:=iW k3 (by decide);have l4:=iW k4 (by decide);have bP:Bg ((Dt.pr j:Nat):Int):=eP (by rw[e9];exact af _) l1;have bM:Bg ((Dt.md j:Nat):Int):=eP (by rw[e9];exact af _) l3;refine⟨_,fun σ' H' z=>z,?_⟩;refine⟨_,rfl,_,rfl,j,times,rfl,hj7,?_⟩;refine⟨_,rfl,_,_,rfl,rfl,?_⟩;refine⟨_,rfl,_,_,rfl,rfl,⟨eP (dv (Pb j hj7)) (iW (k:=21) (by decide +kernel) (by decide)),eP (n:=2 ^ 200) (by decide +kernel) (iW (k:=201) (by decide +kernel) (by decide))⟩,_,_,rfl,rfl,?_⟩;refine⟨_,rfl,_,rfl,a,as,M,n,Dt.pr j,2 ^ 110,congrArg (fun z=>[V.ref a,V.int z]) ePr,sG.seq hA,hR.on sG,ok.rest hpp k1,fun r2 G3 s3 hr2 hc2=>?_⟩;rw[hDD] at hc2;refine⟨_,rfl,_,_,rfl,rfl,?_⟩;refine⟨_,rfl,_,rfl,_,rfl,_,rfl,((Dt.md j:Nat):Int),Dt.pr j,congrArg (fun z=>[V.int ((Dt.md j:Nat):Int),V.int z]) ePr,hpp,bj k1 (d9 (by decide) (by decide)),(fun z=>k2 (by exact_mod_cast z)),fun inv hi hib=>?_⟩;have q1:=db ((r2-res)*inv) (show ((Dt.pr j:Nat):Int)≠0 by omega);have q2:=ck ((r2-res)*inv) (show (0:Int)<((Dt.pr j:Nat):Int) by omega);obtain⟨c1,c2,c3⟩:=Dt.crt (M1:=Dt.md j) (pr:=Dt.pr j) (D:=DD) (res:=res) (r2:=r2) (inv:=inv) (by omega) (by omega) hcg hc2 hi hres;refine⟨_,_,rfl,rfl,⟨eP (n:=Dt.md j+Dt.pr j) (by omega) (bj (Nat.add_lt_add k3 k1) (by decide +kernel)),eP (n:=Dt.pr j) (by omega) l1⟩,_,rfl,_,_,rfl,rfl,(by show (0:Int)<_;rw[ePr];omega),_,rfl,_,_,rfl,rfl,⟨?_,bM⟩,_,_,rfl,rfl,?_⟩
   ·show Bg ((r2-res)*inv % _)
    rw[ePr];exact eP (n:=Dt.pr j) (by omega) l1
   refine⟨_,rfl,_,rfl,_,_,rfl,rfl,⟨bM,by rw[ePr];exact bP⟩,?_⟩;refine⟨7-(j+1),by omega,j+1,res+(r2-res)*inv % (Dt.pr j:Nat)*(Dt.md j:Nat),kts.getD j 0,some (.int (kts.getD j 0*6277101735386680763835789423207666416102355444464034512896+1)),some (.int (r2-res)),rfl,by omega,sG.trans s3,⟨c2,c3⟩,c1,?_⟩;rw[<- ePr,show ((Dt.md (j+1):Nat):Int)=(Dt.md j:Nat)*(kts.getD j 0*6277101735386680763835789423207666416102355444464034512896+1) by rw[ePr];exact iz ..];rfl
  ·refine itN (fun z=>hle (by have:=of_decide_eq_true z;omega)) ?_
   have hfr:=Dt.Ev (M:=Dt.md j) (D:=DD) (res:=res) (bd:=(B:Nat)) (by omega) (by omega) hcg hres;refine⟨_,rfl,_,rfl,_,_,rfl,rfl,_,rfl,?_⟩;by_cases hgt:((B:Nat):Int)<res
   ·rw[if_pos hgt] at hfr
    refine itP (decide_eq_true hgt) ?_;refine⟨_,rfl,_,rfl,_,_,rfl,rfl,?_⟩;rw[<- hfr] at q;exact q G sG
   ·rw[if_neg hgt] at hfr
    refine itN (fun z=>hgt (of_decide_eq_true z)) ?_;rw[<- hfr] at q;exact⟨_,rfl,q G sG⟩
def rD (words:List (List Nat))(o:List Nat):Int:=((words.countP fun w=>decide (w.drop 1=o):Nat):Int)
def rR (texts:List (List Nat))(t:List Nat)(words:List (List Nat)):List Int:=texts.map fun o=>if o=t then ((words.length:Nat):Int)-rD words t else-rD words o
theorem Bu {words:List (List Nat)}{o:List Nat}:((((words.map fun w=>w.drop 1).map T).countP fun y=>eqV y (T o):Nat):Int)=rD words o:=by
 unfold rD;rw[bf,List.countP_map]
 congr 2
 funext w
 show (tx (w.drop 1)==tx o)=decide (w.drop 1=o);rw[ci,beq_iff_eq,decide_eq_true_iff];exact⟨fun h=>eF h,fun h=>by rw[h]⟩
def Fl (K:ac):Sp:=fun vs H Q _=>∃ (a b:Addr) (texts words:List (List Nat)) (t:List Nat),vs=[.ref a,T t,.ref b]∧SqL K H a (texts.map T)∧SqL K H b (words.map T)∧(texts.length<=200∧words.length<=200∧∀ x∈words,1<=x.length∧x.length<=1000)∧∀ D H',H D=none->aM H H'->H' D=some (.lst ((rR texts t words).map V.int))->Q (.ref D) H'
theorem rQ {f:Addr}{fd:FuncData}(F:Fun K "choice_row" "choice_row" eZ f fd)(tt:Txt K mg ad)(C_end_of:Cal P w K mg base (CX1 P w) "end_of" 1 ["word"] Aq):cN P w K mg base (CX1 P w) 2 f fd ["texts", "text", "words"] (Fl K):=by
 refine F.okN lJ (fun vs H Q E h=>?_) (fun cdv A outer s H vs Q E hr h=>?_)
 ·obtain⟨a,b,texts,words,t,rfl,_⟩:=h
  rfl
 ·obtain⟨a,b,texts,words,t,rfl,hA,hB,⟨h1,h2,h3⟩,q⟩:=h
  have hs:sizeLine=16777216:=sizeLine_eq;refine⟨_,(aC (aJ (i:=3) lJ.nd rfl (Or.inr rfl) (dU oR rfl (bL (pv 2)) (fun cl C s' H' fp=>(aU C_end_of hr bQ (aA (pv 0) aD)))))
   (aF (bA (dU oU rfl (bL (pv 0)) (fun cl C s' H' fp=>(Io (aO Ao (pv 0) (pv 2) (aY _)) (aL jP (aN (pT K rfl) (by rfl) tt.b_len bc (aA (pv 4) aD)) (Gg K rfl bz ju nk (sR K rfl) (pv 4) (aA (pv 2) aD))) (kD gI (Gg K rfl bz ju nk (sR K rfl) (pv 4) (aA (pv 0) aD))))))))),?_⟩
  (try rw[dS]);(try rw[cxK1])
  refine⟨_,rfl,b,rfl,⟨_,hB⟩,?_⟩;refine jC (fun v=>T ((unT v).drop 1)) (cF hB) (by rw[aR];omega) (fun v G hv sg N hN=>?_) fun D1 G1 hD1 s1 hd1=>?_
  ·obtain⟨l,hl,rfl⟩:=ar.mp hv
   have z:=hN G (aM.refl _);rw[dP] at z;have hx:=h3 l hl;exact⟨_,rfl,l,rfl,⟨by omega,by omega⟩,z⟩
  have hd1:G1 D1=some (.lst ((words.map fun w=>w.drop 1).map T)):=by
   rw[hd1,bf,bf];refine congrArg (fun l=>some (HO.lst l)) (bb fun m _=>?_);show T ((unT (T m)).drop 1)=T (m.drop 1);rw[dP]
  refine⟨_,rfl,a,rfl,⟨_,s1.seq hA⟩,?_⟩;refine jC (fun v=>.int (if unT v=t then ((words.length:Nat):Int)-rD words t else-rD words (unT v))) (cF (s1.seq hA)) (by rw[aR];omega) (fun v G hv sg N hN=>?_) fun D2 G2 hD2 s2 hd2=>?_
  ·obtain⟨o,ho,rfl⟩:=ar.mp hv
   have z:=hN G (aM.refl _);rw[dP] at z;have hdG:=sg D1 _ hd1;refine⟨_,rfl,_,rfl,_,rfl,_,rfl,_,rfl,?_⟩;by_cases hot:o=t
   ·rw[if_pos hot] at z
    refine itP (decide_eq_true hot) ?_;refine⟨_,rfl,D1,_,rfl,.inl (SqL.of hdG),_,rfl,.inl ⟨rfl,_,SqL.of hdG⟩,_,rfl,D1,_,_,rfl,rfl,SqL.of hdG,iI _,rfl,_,_,rfl,rfl,?_⟩;rw[Bu,aR,aR];exact z
   ·rw[if_neg hot] at z
    refine itN (fun y=>hot (of_decide_eq_true y)) ?_;refine⟨_,rfl,.inl ⟨rfl,_,SqL.of hdG⟩,_,rfl,D1,_,_,rfl,rfl,SqL.of hdG,iI _,rfl,_,rfl,?_⟩;rw[Bu];exact z
  have hD0:H D2=none:=by
   cases e:H D2 with
   | none=>rfl
   | some o=>have:=s1 D2 o e;rw[hD2] at this;cases this
  refine q D2 G2 hD0 (s1.trans s2) ?_;rw[hd2];unfold rR;rw[bf,bf];refine congrArg (fun l=>some (HO.lst l)) (bb fun m _=>?_);show V.int (if unT (T m)=t then _ else _)=V.int (if m=t then _ else _);rw[dP]
def dF (ms:List (List Nat))(p:List Nat):List (List Nat):=ms.filter fun l=>decide (beg l=p)
def Hf (C:Addr):Sp:=fun vs H Q _=>∃ (x tp:Addr) (n:Nat) (ms:List (List Nat)) (p:List Nat),vs=[.ref x,T p]∧jO C H x tp n ms∧gT ms n∧∀ D H',H D=none->aM H H'->H' D=some (.lst ((dF ms p).map T))->Q (.ref D) H'
theorem Mb {f:Addr}{fd:FuncData}(F:Fun K "outs" "outs" uG f fd)(tt:Txt K mg ad)(C_begin_of:Cal P w K mg base (CX1 P w) "begin_of" 1 ["word"] kK):cN P w K mg base (CX1 P w) 2 f fd ["web", "piece"] (Hf ad.Web):=by
 refine F.okN Kh (fun vs H Q E h=>?_) (fun cdv A outer s H vs Q E hr h=>?_)
 ·obtain⟨x,tp,n,ms,p,rfl,_⟩:=h
  rfl
 ·obtain⟨x,tp,n,ms,p,rfl,hW,hok,q⟩:=h
  have hs:sizeLine=16777216:=sizeLine_eq;obtain⟨⟨dx,hx⟩,htp⟩:=id hW;obtain⟨hne,h64,⟨hn,hfew⟩,hxs,hnd⟩:=id hok;refine⟨_,(aF (bA (Fk Cq rfl (uJ (rC (pv 0) rfl)) (fun cl C s' H' fp=>(aO Ao (aU C_begin_of hr bQ (aA (pv 0) aD)) (pv 2) (aY _))) (fun cl C s' H' fp=>(pv 0))))),?_⟩
  (try rw[dS]);(try rw[cxK1])
  refine⟨_,rfl,x,ad.Web,dx,_,_,rfl,hx,tt.cl_Web,tt.na_Web_words,qN _ _,tp,rfl,⟨_,SqT.of htp⟩,?_⟩;refine wD (fun v=>decide (beg (unT v)=p)) (fun v=>v) (iA (SqT.of htp)) (by rw[aR];omega) (fun v H2 hv s2 N hN=>?_) (fun v H2 hv hp s2 N hN=>?_) fun D1 H2 hD1 s2 hd2=>?_
  ·obtain⟨l,hl,rfl⟩:=ar.mp hv
   have hll:=hxs l hl;have z:=hN H2 (aM.refl _);rw[dP] at z;exact⟨_,rfl,l,rfl,⟨by omega,by omega⟩,_,rfl,_,rfl,_,rfl,_,rfl,z⟩
  ·exact⟨_,rfl,hN H2 (aM.refl _)⟩
  rw[show (ms.map T).filter (fun v=>decide (beg (unT v)=p))=(ms.filter fun l=>decide (beg l=p)).map T from gE (p:=fun l=>decide (beg l=p)) ms,ua] at hd2;exact q D1 H2 hD1 s2 hd2
inductive bC (H:Hp)(g:List Nat->List (List Nat)):List (List Nat)->List (Key×V)->Prop
 | nil:bC H g [] []
 | cons {o:List Nat} {a:Addr} {ls:List (List Nat)} {kvs:List (Key×V)}:H a=some (.lst ((g o).map T))->bC H g ls kvs->bC H g (o::ls) ((bx (tx o),.ref a)::kvs)
theorem bC.keys {H:Hp}{g:List Nat->List (List Nat)}{ls:List (List Nat)}{kvs:List (Key×V)}(h:bC H g ls kvs):kvs.map (·.1)=ls.map fun t=>bx (tx t):=by
 induction h with
 | nil=>rfl
 | cons _ _ ih=>rw[a0,a0,ih]
theorem bC.len {H:Hp}{g:List Nat->List (List Nat)}{ls:List (List Nat)}{kvs:List (Key×V)}(h:bC H g ls kvs):kvs.length=ls.length:=by
 have:=congrArg ge h.keys
 rwa [aR,aR] at this
theorem bC.mono {H H':Hp}{g:List Nat->List (List Nat)}{ls:List (List Nat)}{kvs:List (Key×V)}(s:aM H H')(h:bC H g ls kvs):bC H' g ls kvs:=by
 induction h with
 | nil=>exact .nil
 | cons e _ ih=>exact .cons (s _ _ e) ih
theorem bC.updD {H:Hp}{g:List Nat->List (List Nat)}{ls:List (List Nat)}{kvs k:List (Key×V)}{D:Addr}{o:HO}(hd:H D=some (.dK k))(h:bC H g ls kvs):bC (upd H D o) g ls kvs:=by
 induction h with
 | nil=>exact .nil
 | @cons _ a _ _ e _ ih =>
  have hne:a≠D:=fun z=>by rw[z,hd] at e;cases e
  exact .cons (by rw[aH hne];exact e) ih
theorem bC.snoc {H:Hp}{g:List Nat->List (List Nat)}{ls:List (List Nat)}{kvs:List (Key×V)}{o:List Nat}{a:Addr}(h:bC H g ls kvs)(e:H a=some (.lst ((g o).map T))):bC H g (ls++[o]) (kvs++[(bx (tx o),.ref a)]):=by
 induction h with
 | nil=>exact .cons e .nil
 | cons e1 _ ih=>exact .cons e1 ih
theorem bC.put {H:Hp}{g:List Nat->List (List Nat)}{ls:List (List Nat)}{kvs:List (Key×V)}{o:List Nat}{a:Addr}(h:bC H g ls kvs)(ho:o∉ls)(e:H a=some (.lst ((g o).map T))):bC H g (ls++[o]) (eD kvs (bx (tx o)) (.ref a)):=by
 have hn:¬ (kvs.any fun kv=>decide (kv.1=bx (tx o)))=true:=fun z=>by
  obtain⟨kv,h1,h2⟩:=iq.mp z;have h3:kv.1∈kvs.map (·.1):=cy h1;rw[h.keys,of_decide_eq_true h2] at h3;obtain⟨t,h4,h5⟩:=ar.mp h3;have h6:t=o:=eF (gc h5);exact ho (h6▸h4)
 unfold eD;rw[if_neg hn];exact h.snoc e
theorem bC.get {H:Hp}{g:List Nat->List (List Nat)}{ls:List (List Nat)}{kvs:List (Key×V)}{o:List Nat}(h:bC H g ls kvs)(ho:o∈ls):∃ a,eM kvs (bx (tx o))=some (.ref a)∧H a=some (.lst ((g o).map T)):=by
 induction h with
 | nil=>cases ho
 | @cons o' a _ _ e _ ih =>
  by_cases hoo:o'=o
  ·subst hoo
   exact⟨a,fM rfl,e⟩
  ·obtain⟨b,h1,h2⟩:=ih ((au.mp ho).resolve_left (Ne.symm hoo))
   exact⟨b,by rw[eT (fun z=>hoo (eF (gc z)))];exact h1,h2⟩
def vE (C:Addr)(ad:Adr):Sp:=fun vs H Q E=>∃ (x tp:Addr) (n:Nat) (ms:List (List Nat)) (p:List Nat),vs=[.ref x,T p]∧jO C H x tp n ms∧gT ms n∧(¬ IsP ms p->∀ H',aM H H'->E (.ref ad.NoSuch) none H') ∧
 (IsP ms p->∀ (D:Addr) (ps:List (List Nat)) (kvs:List (Key×V)) (H':Hp),H D=none->aM H H'->H' D=some (.dK kvs)->bC H' (dF ms) (ps.filter fun o=>decide (o≠p)) kvs->ps.length<=62->ps.Pairwise (fun a b=>¬ b<a)->ps.Nodup->(∀ z,z∈ps↔IsP ms z)->Q (.ref D) H')
theorem cH {H G:Hp}{D:Addr}(s:aM H G)(h:G D=none):H D=none:=by
 cases e:H D with
 | none=>rfl
 | some o=>exact absurd ((s D o e).symm.trans h) (fun z=>nomatch z)
theorem qY {f:Addr}{fd:FuncData}(F:Fun K "ways_toward" "ways_toward" gW f fd)(tt:Txt K mg ad)(C_pieces:Cal P w K mg base (CX1 P w) "pieces" 2 ["web"] (wJ ad.Web))(C_outs:Cal P w K mg base (CX1 P w) "outs" 2 ["web", "piece"] (Hf ad.Web)) :
  cN P w K mg base (CX1 P w) 3 f fd ["web", "piece"] (vE ad.Web ad):=by
 refine F.okX fB (fun vs H Q E h=>?_) (fun cdv A outer s H vs Q E hr h=>?_)
 ·obtain⟨x,tp,n,ms,p,rfl,_⟩:=h
  rfl
 ·obtain⟨x,tp,n,ms,p,rfl,hW,hok,xn,q⟩:=h
  have hs:sizeLine=16777216:=sizeLine_eq;obtain⟨⟨dx,hx⟩,htp⟩:=id hW;obtain⟨hne,h64,⟨hn,hfew⟩,hxs,hnd⟩:=id hok;refine⟨_,(aC (aJ (i:=2) fB.nd rfl (Or.inl rfl) (aU C_pieces hr bQ (aA (pv 0) aD)))
   (aC (bU (aO iX (pv 1) (pv 2) (by with_unfolding_all rfl)) (aF (eI (E:=fun cls H'=>E cls none H') tt.x_NoSuch rfl (fun _ _ _ _ _ _ _ I hx q=>gY I hx q) (aA (bW [116,104,101,32,119,101,98,32,104,97,115,32,110,111,32,115,117,99,104,32,112,105,101,99,101] (by decide +kernel)) aD))) aV)
   (aC (aJ (i:=3) fB.nd rfl (Or.inl rfl) mI)
   (aC (bZ PassesOwn.leaving rfl (bL (pv 2)) (bG (i:=4) fB.nd rfl (Or.inl rfl)) (aF (bU (aO pA (pv 4) (pv 1) (aY _)) (aF (pM (eC hr) (pv 3) (pv 4) (aU C_outs hr bQ (aA (pv 0) (aA (pv 4) aD))) rfl)) aV)))
   (aF (bA (pv 3))))))),?_⟩
  (try rw[dS]);(try rw[cxK1])
  refine⟨_,rfl,x,tp,n,ms,rfl,hW,hok,fun D1 ps H1 hD1 s1 hd1 hpw hpn hpm=>?_⟩;have hlen:ps.length<=62:=wN (p:=[]) hfew hpn fun z hz=>.inr ((hpm z).mp hz)
  refine⟨_,rfl,_,rfl,D1,_,rfl,.inl (SqL.of hd1),rfl,iI ps,_,rfl,?_⟩;by_cases hp:p∈ps
  ·refine itN (by rw[tY,decide_eq_true hp];exact ak) ?_
   refine fun D hD=>?_
   have hD0:=cH s1 hD;have hd1':upd H1 D (.dK []) D1=some (.lst (ps.map T)):=by rw[aH (aK hd1 hD)];exact hd1
   refine⟨_,rfl,D1,rfl,⟨_,SqL.of hd1'⟩,?_⟩;refine cD (K:=K) (a:=D1) (xs:=ps.map T) (fun i σ H3=>aM H1 H3∧∃ (kvs:List (Key×V)) (v4:Option V),H3 D=some (.dK kvs)∧bC H3 (dF ms) ((ps.take i).filter fun o=>decide (o≠p)) kvs∧σ=[some (.ref x),some (T p),some (.ref D1),some (.ref D),v4]) ⟨aE hD,[],none,aB,.nil,rfl⟩ (fun i σ H3 _ h=>SqL.of (h.1 D1 _ hd1)) ?_ ?_
   ·rintro i y σ H3 hi ⟨s3,kvs,v4,hd3,hwa,rfl⟩
    obtain⟨o,ho,rfl⟩:∃ o,ps[i]?=some o∧T o=y:=by rw[aj] at hi;exact ba.mp hi
    have htk:ps.take (i+1)=ps.take i++[o]:=by rw[br,ho];rfl
    refine⟨_,rfl,_,rfl,_,rfl,_,rfl,_,rfl,?_⟩;by_cases hop:o=p
    ·refine itN (by rw[decide_eq_true hop];exact ak) ?_
     refine⟨s3,kvs,some (T o),hd3,?_,rfl⟩;rw[htk,d8,c9 (by simp[hop])]
     simpa using hwa
    ·refine itP (by rw[decide_eq_false hop];rfl) ?_
     refine⟨_,rfl,_,rfl,x,tp,n,ms,o,rfl,⟨⟨dx,s3 x _ (s1 x _ hx)⟩,s3 tp _ (s1 tp _ htp)⟩,hok,fun D4 H4 hD4 s4 hd4=>?_⟩;refine⟨_,rfl,_,rfl,D,_,rfl,xD.k (k:=bx (tx o)) (s4 D _ hd3) (by rw[hwa.len];have:=b8 (fun o=>decide (o≠p)) (ps.take i);rw[a8] at this;omega),?_⟩;have hno:o∉(ps.take i).filter fun o=>decide (o≠p):=fun z=>by
      have z1:=(cf.mp z).1;have nd:(ps.take i++[o]).Nodup:=htk▸hpn.sublist (fh (i+1) ps);exact (di.mp nd).2.2 o z1 o (aq.mpr rfl) rfl
     have hne4:D4≠D:=fun z=>by rw[z,hd3] at hD4;cases hD4
     refine⟨fun b ob e=>?_,_,some (T o),aB,?_,rfl⟩
     ·rw[aH (aK e hD)]
      exact s4 b ob (s3 b ob e)
     ·rw[htk,d8,c8 (by simp[hop])]
      exact ((hwa.mono s4).put hno hd4).updD (s4 D _ hd3)
   ·rintro σ H3 ⟨s3,kvs,v4,hd3,hwa,rfl⟩
    rw[aR,bv] at hwa;exact⟨_,rfl,q ((hpm p).mp hp) D ps kvs H3 hD0 (s1.trans s3) hd3 hwa hlen hpw hpn hpm⟩
  ·refine itP (by rw[tY,decide_eq_false hp];rfl) ?_
   exact⟨(by show 1<=sizeLine;omega),xn (fun z=>hp ((hpm p).mpr z)) H1 s1⟩
def gO (ls:List (List Nat))(g:List Nat->List (List Nat)):List (List Int):=ls.map fun t=>rR ls t (g t)
def tU (K:ac):Sp:=fun vs H Q _=>∃ (a:Addr) (ls:List (List Nat)) (kvs:List (Key×V)) (g:List Nat->List (List Nat)),vs=[.ref a]∧H a=some (.dK kvs)∧bC H g ls kvs∧(ls.length<=64∧∀ o∈ls,(g o).length<=200∧∀ x∈g o,1<=x.length∧x.length<=1000) ∧
 vB (gO ls g) ls.length∧2*Dt.pL ((gO ls g).map (Dt.rs ls.length))<Dt.md 7∧∀ H',aM H H'->Q (.int (Dt.det ls.length (Dt.ent (gO ls g)))) H'
theorem lP {f:Addr}{fd:FuncData}(F:Fun K "choices_counted" "choices_counted" dW f fd)(tt:Txt K mg ad)(C_determinant:Cal P w K mg base (CX1 P w) "determinant" 3 ["square"] (Mn K))(C_choice_row:Cal P w K mg base (CX1 P w) "choice_row" 2 ["texts", "text", "words"] (Fl K)) :
  cN P w K mg base (CX1 P w) 4 f fd ["ways"] (tU K):=by
 refine F.okN gF (fun vs H Q E h=>?_) (fun cdv A outer s H vs Q E hr h=>?_)
 ·obtain⟨a,ls,kvs,g,rfl,_⟩:=h
  rfl
 ·obtain⟨a,ls,kvs,g,rfl,hd,hwa,⟨h64,hg⟩,hsq,hpl,q⟩:=h
  have hs:sizeLine=16777216:=sizeLine_eq;refine⟨_,(aC (aJ (i:=1) gF.nd rfl (Or.inr rfl) (dH (lQ rfl) (by rfl) tt.b_list (by decide +kernel) (aA (pv 0) aD)))
   (aF (bA (aU C_determinant hr bQ (aA (dU jR rfl (bL (pv 1)) (fun cl C s' H' fp=>(aU C_choice_row hr bQ (aA (pv 2) (aA (pv 0) (aA (gS (eC hr) (pv 1) (pv 0) (fun _ _=>rfl)) aD)))))) aD))))),?_⟩
  (try rw[dS]);(try rw[cxK1])
  refine⟨_,rfl,a,ls,kvs,rfl,hd,hwa.keys,fun D1 hD1=>?_⟩;have s1:=aE (o:=.lst (ls.map T)) hD1;refine⟨_,rfl,D1,rfl,⟨_,SqL.of aB⟩,?_⟩;refine Np (K:=K) (fun v=>rR ls (unT v) (g (unT v))) (cF (SqL.of aB)) (by rw[aR];omega) (fun v G hv sg N hN=>?_) fun D2 bs G2 hD2 s2 hd2 hne2 hR2=>?_
  ·obtain⟨t,ht,rfl⟩:=ar.mp hv
   rw[dP] at hN;obtain⟨b,hb1,hb2⟩:=((hwa.mono s1).mono sg).get ht;have hget:gL G a (T t) (some (.ref b)):=by rw[<- hb1];exact gL.k (k:=bx (tx t)) (sg a _ (s1 a _ hd))
   have hgt:=hg t ht;exact⟨_,rfl,_,rfl,_,rfl,_,rfl,a,_,rfl,hget,D1,b,ls,g t,t,rfl,SqL.of (sg D1 _ aB),SqL.of hb2,⟨by omega,hgt.1,hgt.2⟩,fun D H' hD s' hd'=>hN D H' s' hD hd'⟩
  rw[show (ls.map T).map (fun v=>rR ls (unT v) (g (unT v)))=gO ls g from by
   unfold gO;rw[bf];refine bb fun m _=>?_
   show rR ls (unT (T m)) (g (unT (T m)))=_;rw[dP]] at hR2
  exact⟨D2,bs,gO ls g,ls.length,rfl,SqL.of hd2,hR2,hsq,hpl,fun H' s'=>q H' ((s1.trans s2).trans s')⟩
theorem Au {words:List (List Nat)}{o:List Nat}:(rD words o).natAbs<=words.length:=by
 unfold rD
 have:=List.countP_le_length (p:=fun w=>decide (w.drop 1=o)) (l:=words)
 omega
theorem Gq {texts words:List (List Nat)}{t:List Nat}{x:Int}(hx:x∈rR texts t words):x.natAbs<=words.length:=by
 obtain⟨o,_,rfl⟩:=ar.mp hx;have h1:=Au (words:=words) (o:=t);have h2:=Au (words:=words) (o:=o);have h3:0<=rD words t:=Int.natCast_nonneg _;show (if o=t then ((words.length:Nat):Int)-rD words t else-rD words o).natAbs<=_;split <;> omega
theorem Fy {f:Nat->Nat}{c:Nat}:∀ {n:Nat},(∀ j,j<n->f j<=c)->Dt.sN n f<=n*c:=fun {n} h=>by
 have h1:Dt.sN n f<=Dt.sN n fun _=>1*c:=Dt.Id fun j hj=>by rw[gf];exact h j hj
 have h2:∀ n:Nat,Dt.sN n (fun _=>1)=n:=fun n=>by
  induction n with
  | zero=>rfl
  | succ n ih=>show Dt.sN n (fun _=>1)+1=n+1;rw[ih]
 rw[Dt.yS,h2] at h1;exact h1
theorem Ia {ls:List (List Nat)}{g:List Nat->List (List Nat)}(h64:ls.length<=64)(hg:∀ o∈ls,(g o).length<=64):vB (gO ls g) ls.length∧2*Dt.pL ((gO ls g).map (Dt.rs ls.length))<Dt.md 7:=by
 have hrow:∀ r∈gO ls g,Dt.rs ls.length r<=4096:=fun r hr=>by
  obtain⟨t,ht,rfl⟩:=ar.mp hr;have h1:Dt.rs ls.length (rR ls t (g t))<=ls.length*64:=Fy fun j hj=>by
   have hl:j<(rR ls t (g t)).length:=by unfold rR;rw[aR];exact hj
   rw[ah,aa hl];exact a7 (Gq (b6 hl)) (hg t ht)
  omega
 have hlen:(gO ls g).length=ls.length:=aR ..;refine⟨⟨hlen,fun r hr=>?_,h64,fun r hr=>a7 (hrow r hr) (by decide)⟩,?_⟩
 ·obtain⟨t,_,rfl⟩:=ar.mp hr
  exact aR ..
 ·have h1:=Dt.Hx (R:=4096) (l:=(gO ls g).map (Dt.rs ls.length)) fun x hx=>by
   obtain⟨r,hr,rfl⟩:=ar.mp hx;exact hrow r hr
  rw[aR,hlen] at h1;have h2:4096 ^ ls.length<=4096 ^ 64:=d9 (by decide) h64;have h3:2*4096 ^ 64<Dt.md 7:=by decide +kernel
  exact d7 (ie 2 (a7 h1 h2)) h3
theorem Ps {ts:List (List Nat)}(nd:ts.Nodup)(g:List Nat->List (List Nat)):Dt.det ts.length (Dt.ent (gO ts g))=((Dt.nC ts g:Nat):Int):=Dt.Po nd g
def Kp (D:Addr)(H H':Hp):Prop:=∀ b o,b≠D->H b=some o->H' b=some o
theorem nN {H:Hp}{g:List Nat->List (List Nat)}{ls:List (List Nat)}{kvs:List (Key×V)}(h:bC H g ls kvs){o:List Nat}(ho:o∉ls):eM kvs (bx (tx o))=none:=by
 induction h with
 | nil=>rfl
 | @cons o' a _ _ e _ ih =>
  rw[eT (fun z=>ho (by rw[eF (gc z)];exact am ..))];exact ih fun z=>ho (ai _ z)
theorem bC.cong {H:Hp}{g g':List Nat->List (List Nat)}{ls:List (List Nat)}{kvs:List (Key×V)}(h:bC H g ls kvs)(e:∀ t∈ls,g t=g' t):bC H g' ls kvs:=by
 induction h with
 | nil=>exact .nil
 | @cons o a _ _ e1 _ ih=>exact .cons (by rw[<- e o (am ..)];exact e1) (ih fun t ht=>e t (ai _ ht))
theorem bC.repl {H:Hp}{g:List Nat->List (List Nat)}{ls:List (List Nat)}{kvs:List (Key×V)}{o:List Nat}{a:Addr}{new:List (List Nat)}(h:bC H g ls kvs)(nd:ls.Nodup)(ho:o∈ls)(e:H a=some (.lst (new.map T))) :
  bC H (fun x=>if x=o then new else g x) ls (eD kvs (bx (tx o)) (.ref a)):=by
 have hy:(kvs.any fun kv=>decide (kv.1=bx (tx o)))=true:=by
  have h3:(bx (tx o):Key)∈kvs.map (·.1):=by rw[h.keys];exact cy ho
  obtain⟨kv,h1,h2⟩:=ar.mp h3;exact iq.mpr ⟨kv,h1,decide_eq_true h2⟩
 unfold eD;rw[if_pos hy];clear hy;have no:∀ {ls:List (List Nat)} {kvs:List (Key×V)},bC H g ls kvs->o∉ls->bC H (fun x=>if x=o then new else g x) ls (kvs.map fun kv=>if kv.1=bx (tx o) then (kv.1,V.ref a) else kv):=fun {ls kvs} h=>by
  induction h with
  | nil=>intro _;exact .nil
  | @cons o' b _ _ e1 _ ih =>
   intro hn;have hne:o'≠o:=fun z=>hn (z▸am ..)
   rw[a0,if_neg (fun z=>hne (eF (gc z)))];exact .cons (by rw[if_neg hne];exact e1) (ih fun z=>hn (ai _ z))
 induction h with
 | nil=>cases ho
 | @cons o' b _ _ e1 hr ih =>
  rw[b9] at nd;rw[a0];by_cases hoo:o'=o
  ·subst hoo
   rw[if_pos rfl];exact .cons (by rw[if_pos rfl];exact e) (no hr nd.1)
  ·rw[if_neg (fun z=>hoo (eF (gc z)))]
   exact .cons (by rw[if_neg hoo];exact e1) (ih nd.2 ((au.mp ho).resolve_left (Ne.symm hoo)))
def Hz (p:List Nat)(D:Addr)(us ks:List (List Nat))(H:Hp):Prop:=∃ (kvs:List (Key×V)) (ls:List (List Nat)) (g:List Nat->List (List Nat)),H D=some (.dK kvs)∧bC H g ls kvs∧ls.Nodup∧ls.length<=2*us.length+ks.length∧(∀ t,t∈ls↔t≠p∧(IsP us t∨t∈ks))∧∀ t∈ls,(g t).Perm (us.filter fun l=>decide (beg l=t))∧(g t).Pairwise (fun a b=>¬ b<a)
def Av (K:ac):Sp:=fun vs H Q _=>∃ (b:Addr) (ms:List (List Nat)) (p:List Nat),vs=[.ref b,T p]∧SqL K H b (ms.map T)∧(ms.length<=60∧∀ x∈ms,1<=x.length∧x.length<=1000)∧∀ D H',H D=none->aM H H'->Hz p D ms [] H'->Q (.ref D) H'
theorem vM {f:Addr}{fd:FuncData}(F:Fun K "_law_ways" "_law_ways" jL f fd)(tt:Txt K mg ad):cN P w K mg base (CX1 P w) 1 f fd ["words", "piece"] (Av K):=by
 refine F.okN fV (fun vs H Q E h=>?_) (fun cdv A outer s H vs Q E hr h=>?_)
 ·obtain⟨b,ms,p,rfl,_⟩:=h
  rfl
 ·obtain⟨b,ms,p,rfl,hS,⟨hl,hx⟩,q⟩:=h
  have hs:sizeLine=16777216:=sizeLine_eq;refine⟨_,(aC (aJ (i:=2) fV.nd rfl (Or.inl rfl) mI)
   (aC (bZ PassesOwn.never rfl (bL (pv 0)) (bG (i:=3) fV.nd rfl (Or.inl rfl)) (aC (bZ PassesOwn.never rfl (bL (bT (aA (aS lA (pv 3) bD (aX (kD gI aG))) (aA (aS lA (pv 3) (aX aG) bD) aD)))) (bG (i:=4) fV.nd rfl (Or.inl rfl)) (aF (bU (aO pA (pv 4) (pv 1) (aY _)) (aF (cW (qM (pv 2) (pv 4) (bT aD) ⟨rfl,rfl,rfl,rfl⟩))) aV)))
   (aF (bU (aO pA (aS lA (pv 3) bD (aX (kD gI aG))) (pv 1) (aY _)) (aF (pM (eC hr) (pv 2) (aS lA (pv 3) bD (aX (kD gI aG))) (aN mS (by rfl) tt.b_sorted dt (aA (aL cY (gS (eC hr) (pv 2) (aS lA (pv 3) bD (aX (kD gI aG))) (fun _ _=>rfl)) (bT (aA (pv 3) aD))) aD)) rfl)) aV))))
   (aF (bA (pv 2))))),?_⟩
  (try rw[dS]);(try rw[cxK1])
  refine fun D hD=>?_
  have sD:=aE (o:=.dK []) hD;have tolist:∀ {H'},Kp D H H'->SqL K H' b (ms.map T):=fun {H'} k=>SqL.keepTwo hS fun o e=>k b o (fun z=>by rw[z,hD] at e;cases e) e
  refine⟨_,rfl,b,rfl,⟨_,sD.seq hS⟩,?_⟩;refine cD (K:=K) (a:=b) (xs:=ms.map T) (fun i σ H3=>Kp D H H3∧Hz p D (ms.take i) [] H3∧∃ v3 v4:Option V,σ=[some (.ref b),some (T p),some (.ref D),v3,v4]) ⟨fun b o _ e=>sD b o e,⟨[],[],fun _=>[],aB,.nil,gx,bi _,fun t=>⟨fun z=>(nomatch z),fun z=>z.2.elim (fun ⟨w,h,_⟩=>by rw[gh] at h;cases h) (fun h=>(nomatch h))⟩,fun t h=>(nomatch h)⟩,none,none,rfl⟩ (fun i σ H3 _ h=>tolist h.1) ?_ ?_
  ·rintro i y σ H3 hi ⟨k3,hw3,v3,v4,rfl⟩
   obtain⟨x,hxi,rfl⟩:∃ x,ms[i]?=some x∧T x=y:=by rw[aj] at hi;exact ba.mp hi
   have hxx:=hx x (az hxi);have htk:ms.take (i+1)=ms.take i++[x]:=by rw[br,hxi];rfl
   have hil:(ms.take i).length<=60:=by rw[a8];omega
   have cb:fX x none (some (-(1:Int)))=beg x:=kN hxx.1;have ce:fX x (some 1) none=x.drop 1:=hJ (k:=1) hxx.1;refine⟨_,rfl,_,rfl,_,rfl,_,rfl,(by omega),_,rfl,_,rfl,_,rfl,(by omega),(by show 2<=sizeLine;omega),fun l hl=>?_⟩;rw[cb,ce];have s4:=aE (o:=.lst [T (beg x),T (x.drop 1)]) hl;have hlD:l≠D:=fun z=>by obtain⟨kvs,_,_,h,_⟩:=hw3;rw[z,h] at hl;cases hl
   have h4:upd H3 l (.lst [T (beg x),T (x.drop 1)]) l=some (.lst [T (beg x),T (x.drop 1)]):=aB;have hw4:Hz p D (ms.take i) [] (upd H3 l (.lst [T (beg x),T (x.drop 1)])):=by
    obtain⟨kvs,ls,g,h1,h2,h3⟩:=hw3;exact⟨kvs,ls,g,s4 D _ h1,h2.mono s4,h3⟩
   generalize upd H3 l (.lst [T (beg x),T (x.drop 1)])=H4 at s4 h4 hw4;refine⟨l,rfl,⟨_,SqL.of h4⟩,?_⟩;refine cD (K:=K) (a:=l) (xs:=[beg x,x.drop 1].map T) (fun j σ H5=>Kp D H4 H5∧Hz p D (ms.take i) ([beg x,x.drop 1].take j) H5∧∃ v4:Option V,σ=[some (.ref b),some (T p),some (.ref D),some (T x),v4]) ⟨fun b o _ e=>e,hw4,v4,rfl⟩ (fun j σ H5 _ h=>SqL.of (h.1 l _ hlD h4)) ?_ ?_
   ·rintro j y σ H5 hj ⟨k5,hw5,v4,rfl⟩
    obtain⟨o,ho,rfl⟩:∃ o,[beg x,x.drop 1][j]?=some o∧T o=y:=by rw[aj] at hj;exact ba.mp hj
    have htj:[beg x,x.drop 1].take (j+1)=[beg x,x.drop 1].take j++[o]:=by rw[br,ho];rfl
    have hjl:([beg x,x.drop 1].take j).length<=2:=by rw[a8];exact ki _ _
    obtain⟨kvs,ls,g,hd5,hwa,nd,hll,hm,hg⟩:=hw5;refine⟨_,rfl,_,rfl,_,rfl,_,rfl,_,rfl,?_⟩;by_cases hop:o=p
    ·refine itN (by rw[decide_eq_true hop];exact ak) ?_
     refine⟨k5,⟨kvs,ls,g,hd5,hwa,nd,by rw[htj,ag];omega,fun t=>?_,hg⟩,some (T o),rfl⟩;rw[hm,htj,a6,aq];constructor
     ·rintro⟨h1,h2 | h2⟩
      ·exact⟨h1,.inl h2⟩
      ·exact⟨h1,.inr (.inl h2)⟩
     ·rintro⟨h1,h2 | h2 | h2⟩
      ·exact⟨h1,.inl h2⟩
      ·exact⟨h1,.inr h2⟩
      ·exact absurd (h2.trans hop) h1
    ·refine itP (by rw[decide_eq_false hop];rfl) ?_
     refine⟨_,rfl,D,rfl,⟨_,hd5⟩,_,rfl,(by show 0<=sizeLine;omega),fun e he=>?_⟩;have s6:=aE (o:=.lst []) he;refine⟨kvs,bx (tx o),s6 D _ hd5,rfl,by rw[hwa.len];omega,fun v hv=>?_,fun hn=>?_⟩
     ·have hol:o∈ls:=Decidable.byContradiction fun z=>by rw[nN hwa z] at hv;cases hv
      refine⟨fun b o' hb e'=>s6 b o' (k5 b o' hb e'),⟨kvs,ls,g,s6 D _ hd5,hwa.mono s6,nd,by rw[htj,ag];omega,fun t=>?_,hg⟩,some (T o),rfl⟩;rw[hm,htj,a6,aq];constructor
      ·rintro⟨h1,h2 | h2⟩
       ·exact⟨h1,.inl h2⟩
       ·exact⟨h1,.inr (.inl h2)⟩
      ·rintro⟨h1,h2 | h2 | h2⟩
       ·exact⟨h1,.inl h2⟩
       ·exact⟨h1,.inr h2⟩
       ·rw[h2];exact (hm o).mp hol
     ·have hol:o∉ls:=fun z=>by obtain⟨a,h1,_⟩:=hwa.get z;rw[h1] at hn;cases hn
      have heD:e≠D:=fun z=>by rw[z,hd5] at he;cases he
      have hw6:bC (upd H5 e (.lst [])) (fun t=>if t=o then [] else g t) ls kvs:=(hwa.mono s6).cong fun t ht=>by have hne:t≠o:=fun z=>hol (z▸ht);rw[if_neg hne]
      have hw7:=(hw6.put hol (a:=e) (by rw[if_pos rfl];exact aB)).updD (o:=.dK (eD kvs (bx (tx o)) (.ref e))) (s6 D _ hd5);refine⟨fun b o' hb e'=>by rw[aH hb];exact s6 b o' (k5 b o' hb e'),⟨_,ls++[o],_,aB,hw7,?_,by rw[htj,ag,ag];show _+1<=_+(_+1);omega,fun t=>?_,fun t ht=>?_⟩,some (T o),rfl⟩
      ·exact di.mpr ⟨nd,by simp,fun a ha c hc z=>hol (by rw[<- aq.mp hc,<- z];exact ha)⟩
      ·rw[a6,hm,htj,a6,aq]
       constructor
       ·rintro (⟨h1,h2 | h2⟩ | h2)
        ·exact⟨h1,.inl h2⟩
        ·exact⟨h1,.inr (.inl h2)⟩
        ·exact⟨h2▸hop,.inr (.inr h2)⟩
       ·rintro⟨h1,h2 | h2 | h2⟩
        ·exact .inl ⟨h1,.inl h2⟩
        ·exact .inl ⟨h1,.inr h2⟩
        ·exact .inr h2
      ·rcases a6.mp ht with z | z
       ·have hne:t≠o:=fun e=>hol (e▸z)
        rw[if_neg hne];exact hg t z
       ·have z:=aq.mp z
        subst z;rw[if_pos rfl];refine⟨?_,jw⟩;rw[j3.mpr fun u hu e=>hol ((hm t).mpr ⟨hop,.inl ⟨u,hu,.inl (of_decide_eq_true e).symm⟩⟩)]
   ·rintro σ H5 ⟨k5,hw5,v4,rfl⟩
    have hw5:Hz p D (ms.take i) [beg x,x.drop 1] H5:=hw5;obtain⟨kvs,ls,g,hd5,hwa,nd,hll,hm,hg⟩:=hw5;have hll':ls.length<=2*(ms.take i).length+2:=hll;have k5':Kp D H H5:=fun b o hb e=>k5 b o hb (s4 b o (k3 b o hb e))
    have hmem:∀ t,t∈ls↔t≠p∧(IsP (ms.take (i+1)) t∨t∈([]:List (List Nat))):=fun t=>by
     rw[hm,htk];constructor
     ·rintro⟨h1,⟨u,h2,h3⟩ | h2⟩
      ·exact⟨h1,.inl ⟨u,cn _ h2,h3⟩⟩
      ·refine⟨h1,.inl ⟨x,av _ (aq.mpr rfl),?_⟩⟩
       rcases au.mp h2 with z | z
       ·exact .inl z
       ·exact .inr (aq.mp z)
     ·rintro⟨h1,⟨u,h2,h3⟩ | h2⟩
      ·rcases a6.mp h2 with z | z
       ·exact⟨h1,.inl ⟨u,z,h3⟩⟩
       ·rw[aq.mp z] at h3
        exact⟨h1,.inr (h3.elim (fun e=>e▸am ..) fun e=>e▸ai _ (am ..))⟩
      ·cases h2
    have hl2:ls.length<=2*(ms.take (i+1)).length+([]:List (List Nat)).length:=by
     rw[htk,ag];show _<=2*(_+1)+0
     have:([beg x,x.drop 1]:List (List Nat)).length=2:=rfl
     omega
    refine⟨_,rfl,_,rfl,_,rfl,_,rfl,(by omega),_,rfl,_,rfl,_,rfl,_,rfl,?_⟩;rw[cb];by_cases hop:beg x=p
    ·refine itN (by rw[decide_eq_true hop];exact ak) ?_
     refine⟨k5',⟨kvs,ls,g,hd5,hwa,nd,hl2,hmem,fun t ht=>?_⟩,_,_,rfl⟩;rw[htk,d8,c9 (by intro z;exact ((hm t).mp ht).1 ((of_decide_eq_true z).symm.trans hop)),g0,dy];exact hg t ht
    ·refine itP (by rw[decide_eq_false hop];rfl) ?_
     have hbl:beg x∈ls:=(hm _).mpr ⟨hop,.inr (am ..)⟩;obtain⟨a,ha1,ha2⟩:=hwa.get hbl;have hgl:(g (beg x)).length<=60:=by rw[(hg _ hbl).1.length_eq];exact a7 (b8 ..) hil
     refine⟨_,rfl,_,rfl,_,rfl,_,rfl,_,rfl,(by omega),D,_,rfl,(by rw[cb];have z:=gL.k (k:=bx (tx (beg x))) hd5;rw[ha1] at z;exact z),_,rfl,(by show 1<=sizeLine;omega),fun e he=>?_⟩;have s6:=aE (o:=.lst [T x]) he;refine⟨a,e,_,_,rfl,rfl,SqL.of (s6 a _ ha2),SqL.of aB,(by rw[aR];show _+1<=sizeLine;omega),fun e2 he2=>?_⟩;have s7:=s6.trans (aE (o:=.lst ((g (beg x)).map T++[T x])) he2);refine⟨e2,g (beg x)++[x],rfl,SqL.of (by rw[ax];exact aB),(by rw[ag];show _+1<64;omega),fun so e3 he3 hp3 hw3=>?_⟩;have s8:=s7.trans (aE (o:=.lst (so.map T)) he3);have h8:upd (upd (upd H5 e (.lst [T x])) e2 (.lst ((g (beg x)).map T++[T x]))) e3 (.lst (so.map T)) e3=some (.lst (so.map T)):=aB;generalize upd (upd (upd H5 e (.lst [T x])) e2 (.lst ((g (beg x)).map T++[T x]))) e3 (.lst (so.map T))=H8 at s8 h8;refine⟨_,rfl,_,rfl,_,rfl,_,rfl,_,rfl,(by omega),D,_,rfl,(by rw[cb];exact xD.k (k:=bx (tx (beg x))) (s8 D _ hd5) (by rw[hwa.len];omega)),?_⟩;have hw9:=((hwa.mono s8).repl nd hbl h8).updD (o:=.dK (eD kvs (bx (tx (beg x))) (.ref e3))) (s8 D _ hd5);refine⟨fun b o hb e'=>by rw[aH hb];exact s8 b o (k5' b o hb e'),⟨_,ls,_,aB,hw9,nd,hl2,hmem,fun t ht=>?_⟩,_,_,rfl⟩;rw[htk,d8];by_cases htb:t=beg x
     ·subst htb
      rw[if_pos rfl,c8 (p:=fun l=>decide (beg l=beg x)) (decide_eq_true rfl),g0];exact⟨hp3.trans ((hg _ hbl).1.append_right _),hw3⟩
     ·rw[if_neg htb,c9 (by intro z;exact htb (of_decide_eq_true z).symm),g0,dy]
      exact hg t ht
  ·rintro σ H3 ⟨k3,hw3,v3,v4,rfl⟩
   rw[aR,bv] at hw3;exact⟨_,rfl,q D H3 hD (fun b o e=>k3 b o (aK e hD) e) hw3⟩
theorem Bd {t:List Nat}{v:V}:∀ {ls:List (List Nat)},eM (tKs ls v) (bx (tx t))=if t∈ls then some v else none
 | []=>by simp[tKs,eM]
 | l::ls=>by
  have ih:=@Bd t v ls;unfold tKs eM at ih ⊢;rw[a0,gz];by_cases e:l=t
  ·subst e
   simp
  ·have e2:¬ (bx (tx l):Key)=bx (tx t):=fun z=>e (eF (gc z))
   have e3:¬ t=l:=fun z=>e z.symm
   simp only [e2,decide_false,au,e3,false_or];exact ih
theorem Ko {t:List Nat}{v:V}{ls:List (List Nat)}:eD (tKs ls v) (bx (tx t)) v=tKs (Hg.Pj ls t) v:=by
 have e:((tKs ls v).any fun kv=>decide (kv.1=bx (tx t)))=decide (t∈ls):=by
  rw[ci,iq,decide_eq_true_iff];constructor
  ·rintro⟨kv,h1,h2⟩
   obtain⟨l,hl,rfl⟩:=ar.mp h1
   have:=eF (gc (of_decide_eq_true h2))
   exact this▸hl
  ·exact fun h=>⟨_,cy h,decide_eq_true rfl⟩
 unfold eD Hg.Pj;rw[e];by_cases h:t∈ls
 ·rw[if_pos (decide_eq_true h),if_pos h]
  conv=>rhs;rw[<- g9 (tKs ls v)]
  refine bb fun kv hkv=>?_
  obtain⟨l,_,rfl⟩:=ar.mp hkv;split
  ·rfl
  ·rfl
 ·rw[if_neg (by rw[decide_eq_false h];exact ak),if_neg h]
  unfold tKs;rw[ax];rfl
theorem vN (ls:List (List Nat))(v:V):(tKs ls v).length=ls.length:=by unfold tKs;rw[aR]
theorem bC.app {G:Hp}{g:List Nat->List (List Nat)}{ts:List (List Nat)}{kvs:List (Key×V)}{t x:List Nat}{b:Addr}(h:bC G g ts kvs):ts.Nodup->(kvs.map (·.2)).Nodup->t∈ts->eM kvs (bx (tx t))=some (.ref b)->bC (upd G b (.lst ((g t++[x]).map T))) (fun u=>if u=t then g t++[x] else g u) ts kvs:=by
 have vm:∀ {kvs:List (Key×V)} {k:Key} {v:V},eM kvs k=some v->v∈kvs.map (·.2):=fun {kvs k v}=>by
  induction kvs with
  | nil=>intro e;cases e
  | cons kv kvs ih =>
   intro e;obtain⟨k',v'⟩:=kv;by_cases hk:k'=k
   ·rw[fM hk] at e
    cases e;exact am ..
   ·rw[eT hk] at e
    exact ai _ (ih e)
 have no:∀ {ts:List (List Nat)} {kvs:List (Key×V)},bC G g ts kvs->t∉ts->V.ref b∉kvs.map (·.2)->bC (upd G b (.lst ((g t++[x]).map T))) (fun u=>if u=t then g t++[x] else g u) ts kvs:=fun {ts kvs} h=>by
  induction h with
  | nil=>intro _ _;exact .nil
  | @cons o a _ _ e _ ih =>
   intro h1 h2;have hne:o≠t:=fun z=>h1 (z▸am ..)
   have hab:a≠b:=fun z=>h2 (z▸am ..)
   exact .cons (by rw[aH hab,if_neg hne];exact e) (ih (fun z=>h1 (ai _ z)) fun z=>h2 (ai _ z))
 induction h with
 | nil=>intro _ _ h;cases h
 | @cons o a _ _ e hr ih =>
  intro nd nv ht hv;rw[b9] at nd;rw[a0,b9] at nv;by_cases hot:o=t
  ·subst hot
   rw[fM rfl] at hv;cases hv;exact .cons (by rw[aB,if_pos rfl]) (no hr nd.1 nv.1)
  ·rw[eT (fun z=>hot (eF (gc z)))] at hv
   have hab:a≠b:=fun z=>nv.1 (z▸vm hv)
   exact .cons (by rw[aH hab,if_neg hot];exact e) (ih nd.2 nv.2 ((au.mp ht).resolve_left (Ne.symm hot)) hv)
def cg (us:List (List Nat))(t:List Nat):List (List Nat):=(us.filter fun w=>decide (w.drop 1=t)).map beg
theorem Bs {us:List (List Nat)}{x t:List Nat}:cg (us++[x]) t=if t=x.drop 1 then cg us t++[beg x] else cg us t:=by
 unfold cg;rw[d8,ax];by_cases h:t=x.drop 1
 ·rw[if_pos h,c8 (p:=fun w:List Nat=>decide (w.drop 1=t)) (decide_eq_true h.symm),g0]
  rfl
 ·rw[if_neg h,c9 (p:=fun w:List Nat=>decide (w.drop 1=t)) (fun z=>h (of_decide_eq_true z).symm),g0,je,dy]
theorem yY {us:List (List Nat)}{t z:List Nat}:z∈cg us t↔∃ w∈us,w.drop 1=t∧beg w=z:=by
 unfold cg;rw[ar];constructor
 ·rintro⟨w,h1,h2⟩
  obtain⟨h3,h4⟩:=cf.mp h1;exact⟨w,h3,of_decide_eq_true h4,h2⟩
 ·rintro⟨w,h1,h2,h3⟩
  exact⟨w,cf.mpr ⟨h1,decide_eq_true h2⟩,h3⟩
def Ap (us:List (List Nat))(p:List Nat)(fs:List (List Nat)):Prop:=∀ χ:List Nat->Prop,χ p->(∀ w∈us,χ (w.drop 1)->χ (beg w))->∀ k∈fs,χ k
def zW (K:ac):Sp:=fun vs H Q _=>∃ (a:Addr) (us:List (List Nat)) (p:List Nat),vs=[.ref a,T p]∧SqA K H a (us.map T)∧(us.length<=1000∧∀ x∈us,1<=x.length∧x.length<=1000)∧∀ (D:Addr) (fs:List (List Nat)) (H':Hp),H D=none->aM H H'->H' D=some (.dK (tKs fs (.bl true)))->fs.Nodup->p∈fs->(∀ w∈us,w.drop 1∈fs->beg w∈fs)->Ap us p fs->Q (.ref D) H'
theorem vT {f:Addr}{fd:FuncData}(F:Fun K "coming_to" "coming_to" kG f fd)(tt:Txt K mg ad)(C_end_of:Cal P w K mg base (CX1 P w) "end_of" 1 ["word"] Aq)(C_begin_of:Cal P w K mg base (CX1 P w) "begin_of" 1 ["word"] kK):cN P w K mg base (CX1 P w) 2 f fd ["words", "piece"] (zW K):=by
 refine F.okN dO (fun vs H Q E h=>?_) (fun cdv A outer s H vs Q E hr h=>?_)
 ·obtain⟨a,ms,p,rfl,_⟩:=h
  rfl
 ·obtain⟨a,ms,p,rfl,hS,⟨hl,hx⟩,q⟩:=h
  have hs:sizeLine=16777216:=sizeLine_eq;have hu:=j7 (eC hr);refine⟨_,(aC (aJ (i:=2) dO.nd rfl (Or.inl rfl) mI)
   (aC (bZ PassesOwn.never rfl (vJ K rfl (pv 0)) (bG (i:=3) dO.nd rfl (Or.inl rfl)) (aF (cW (iC bz cq cr cL (qM (pv 2) (aU C_end_of hr bQ (aA (pv 3) aD)) (bT aD) ⟨rfl,rfl,rfl,rfl⟩) (aA (aU C_begin_of hr bQ (aA (pv 3) aD)) aD)))))
   (aC (aJ (i:=4) dO.nd rfl (Or.inl rfl) (Kf (Jc (pv 1) fK Ke) rfl rfl (fun z=>nomatch z) (by decide)))
   (aC (aJ (i:=5) dO.nd rfl (Or.inl rfl) (bT (aA (pv 1) aD)))
   (aC (kC PassesOwn.never (aO (xS hu) (pv 5) (bT aD) (aY _)) (aC (aJ (i:=6) dO.nd rfl (Or.inl rfl) (Nm bz PySem.F.slot_list_pop PySem.F.type_list_pop Oc (pv 5)))
   (aF (bZ PassesOwn.never rfl (bL (Ih (eC hr) (pv 2) (pv 6) (bT aD) ⟨rfl,rfl,rfl,rfl⟩)) (bG (i:=7) dO.nd rfl (Or.inl rfl)) (aF (bU (vV (Cu (eC hr) (pv 7) (pv 4))) (aC (pM (eC hr) (pv 4) (pv 7) fK rfl)
   (aF (cW (iC bz cq cr cL (pv 5) (aA (pv 7) aD))))) aV))))))
   (aF (bA (pv 4)))))))),?_⟩
  (try rw[dS]);(try rw[cxK1])
  refine fun D hD=>?_
  have sD:=aE (o:=.dK []) hD;refine⟨_,rfl,a,ms.map T,_,rfl,hS,sD,fun J rd=>?_⟩;refine Dx rd (fun i σ G=>aM H G∧∃ (kvs:List (Key×V)) (ts:List (List Nat)) (v2:Option V),G D=some (.dK kvs)∧bC G (cg (ms.take i)) ts kvs∧ts.Nodup∧(kvs.map (·.2)).Nodup∧(∀ b,V.ref b∈kvs.map (·.2)->H b=none)∧ts.length<=i∧(∀ t,t∈ts↔∃ x∈ms.take i,(x.drop 1)=t)∧σ=[some (.ref a),some (T p),some (.ref D),v2,none,none,none,none])
   ⟨sD,[],[],none,aB,.nil,gx,gx,fun b h=>(nomatch h),af _,fun t=>⟨fun h=>(nomatch h),fun ⟨x,h,_⟩=>by rw[gh] at h;cases h⟩,rfl⟩ (fun i σ G _ h=>h.1) ?_ ?_
  ·rintro i y σ G hi ⟨sG,kvs,ts,v2,hd,hwa,nd,nv,hf,hlt,hm,rfl⟩
   obtain⟨x,hxi,rfl⟩:∃ x,ms[i]?=some x∧T x=y:=by rw[aj] at hi;exact ba.mp hi
   have hil:=(al.mp hxi).1;have hxx:=hx x (az hxi);have htk:ms.take (i+1)=ms.take i++[x]:=by rw[br,hxi];rfl
   have hm2:∀ t,(∃ y∈ms.take (i+1),y.drop 1=t)↔(∃ y∈ms.take i,y.drop 1=t)∨t=(x.drop 1):=fun t=>by
    rw[htk];constructor
    ·rintro⟨y,h1,h2⟩
     rcases a6.mp h1 with z | z
     ·exact .inl ⟨y,z,h2⟩
     ·rw[aq.mp z] at h2
      exact .inr h2.symm
    ·rintro (⟨y,h1,h2⟩ | h)
     ·exact⟨y,cn _ h1,h2⟩
     ·exact⟨x,av _ (aq.mpr rfl),h.symm⟩
   have hgl:∀ t,(cg (ms.take i) t).length<=1000:=fun t=>by
    unfold cg;rw[aR];exact a7 (b8 ..) (by rw[a8];omega)
   refine⟨_,rfl,D,rfl,⟨_,hd⟩,_,rfl,x,rfl,⟨hxx.1,hxx.2⟩,(by show 0<=sizeLine;omega),fun e he=>?_⟩;have s1:=aE (o:=.lst []) he;have h1:upd G e (.lst []) e=some (.lst []):=aB;have heH:H e=none:=cH sG he;have heD:e≠D:=fun z=>by rw[z,hd] at he;cases he
   have hd1:=s1 D _ hd;have hwa1:=hwa.mono s1;have sG1:=sG.trans s1;have hev:V.ref e∉kvs.map (·.2):=fun z=>by
    have key:∀ {ts:List (List Nat)} {kvs:List (Key×V)},bC G (cg (ms.take i)) ts kvs->V.ref e∉kvs.map (·.2):=fun {ts kvs} h=>by
     induction h with
     | nil=>intro z;cases z
     | @cons o a' _ _ e1 _ ih =>
      intro z;rcases au.mp z with z | z
      ·cases z;rw[he] at e1;cases e1
      ·exact ih z
    exact key hwa z
   generalize upd G e (.lst [])=G1 at s1 h1 hd1 hwa1 sG1;refine⟨kvs,bx (tx ((x.drop 1))),hd1,rfl,by rw[hwa.len];omega,fun v hv=>?_,fun hn=>?_⟩
   ·have hol:(x.drop 1)∈ts:=Decidable.byContradiction fun z=>by rw[nN hwa z] at hv;cases hv
    obtain⟨b,hb1,hb2⟩:=hwa1.get hol;obtain rfl:v = .ref b:=by rw[hb1] at hv;exact (a5 hv).symm
    have hbH:=hf b (by
     have vm:∀ {kvs:List (Key×V)} {k:Key} {v:V},eM kvs k=some v->v∈kvs.map (·.2):=fun {kvs k v}=>by
      induction kvs with
      | nil=>intro e;cases e
      | cons kv kvs ih =>
       intro e;obtain⟨k',v'⟩:=kv;by_cases hk:k'=k
       ·rw[fM hk] at e;cases e;exact am ..
       ·rw[eT hk] at e;exact ai _ (ih e)
     exact vm hv)
    have hbD:b≠D:=fun z=>by rw[z,hd1] at hb2;cases hb2
    refine⟨.inl ⟨rfl,_,SqL.of hb2⟩,_,rfl,x,rfl,⟨hxx.1,hxx.2⟩,b,_,_,rfl,rfl,hb2,(by rw[aR];have:=hgl ((x.drop 1));omega),?_⟩;have hw2:=hwa1.app (x:=beg x) nd nv hol hb1;refine⟨fun b' o e'=>by rw[aH (fun z=>by rw[z,hbH] at e';cases e')];exact sG1 b' o e',kvs,ts,_,by rw[aH hbD.symm];exact hd1,?_,nd,nv,hf,by omega,fun t=>?_,rfl⟩
    ·rw[ax] at hw2
     refine hw2.cong fun t _=>?_
     rw[htk,Bs];by_cases z:t=(x.drop 1)
     ·rw[if_pos z,if_pos z,z]
     ·rw[if_neg z,if_neg z]
    ·rw[hm2,hm]
     exact⟨.inl,fun h=>h.elim id fun z=>z▸(hm _).mp hol⟩
   ·have hol:(x.drop 1)∉ts:=fun z=>by obtain⟨a,h1,_⟩:=hwa1.get z;rw[h1] at hn;cases hn
    have hep:upd G1 D (.dK (eD kvs (bx (tx ((x.drop 1)))) (.ref e))) e=some (.lst []):=by rw[aH heD];exact h1
    refine⟨.inl ⟨rfl,_,SqL.of hep⟩,_,rfl,x,rfl,⟨hxx.1,hxx.2⟩,e,_,_,rfl,rfl,hep,(by show 0<sizeLine;omega),?_⟩;have hpk:eD kvs (bx (tx ((x.drop 1)))) (.ref e)=kvs++[(bx (tx ((x.drop 1))),.ref e)]:=by
     unfold eD;rw[if_neg];intro z;obtain⟨kv,z1,z2⟩:=iq.mp z;have h3:kv.1∈kvs.map (·.1):=cy z1;rw[hwa.keys,of_decide_eq_true z2] at h3;obtain⟨t,h4,h5⟩:=ar.mp h3;exact hol (eF (gc h5)▸h4)
    have og0:cg (ms.take i) (x.drop 1)=[]:=by
     unfold cg;rw[j3.mpr fun u hu z=>hol ((hm _).mpr ⟨u,hu,of_decide_eq_true z⟩)];rfl
    have hne:∀ b' o,H b'=some o->b'≠e∧b'≠D:=fun b' o e'=>⟨fun z=>(by rw[z,heH] at e';cases e'),fun z=>(by rw[z,hD] at e';cases e')⟩
    refine⟨fun b' o e'=>by rw[aH (hne b' o e').1,aH (hne b' o e').2];exact sG1 b' o e',_,ts++[(x.drop 1)],_,by rw[aH heD.symm];exact aB,?_,?_,?_,?_,by rw[ag];show _+1<=_;omega,fun t=>?_,rfl⟩
    ·have hw2:bC (upd (upd G1 D (.dK (eD kvs (bx (tx ((x.drop 1)))) (.ref e)))) e (.lst ([]++[T (beg x)]))) (fun t=>if t=(x.drop 1) then [beg x] else cg (ms.take i) t) ts kvs:=by
      have hw3:=hwa1.updD (o:=.dK (eD kvs (bx (tx ((x.drop 1)))) (.ref e))) hd1;have key:∀ {G':Hp} {ts:List (List Nat)} {kvs:List (Key×V)},bC G' (cg (ms.take i)) ts kvs->V.ref e∉kvs.map (·.2)->(x.drop 1)∉ts->bC (upd G' e (.lst ([]++[T (beg x)]))) (fun t=>if t=(x.drop 1) then [beg x] else cg (ms.take i) t) ts kvs:=fun {G' ts kvs} h=>by
       induction h with
       | nil=>intro _ _;exact .nil
       | @cons o a' _ _ e1 _ ih =>
        intro z1 z2;have n1:a'≠e:=fun z=>z1 (z▸am ..)
        have n2:o≠(x.drop 1):=fun z=>z2 (z▸am ..)
        exact .cons (by rw[aH n1,if_neg n2];exact e1) (ih (fun z=>z1 (ai _ z)) fun z=>z2 (ai _ z))
      exact key hw3 hev hol
     rw[hpk];rw[hpk] at hw2;refine (hw2.snoc (a:=e) (by rw[aB,if_pos rfl];rfl)).cong fun t _=>?_
     rw[htk,Bs];by_cases z:t=(x.drop 1)
     ·rw[if_pos z,if_pos z,z,og0];rfl
     ·rw[if_neg z,if_neg z]
    ·exact di.mpr ⟨nd,by simp,fun a' ha c hc z=>hol (by rw[<- aq.mp hc,<- z];exact ha)⟩
    ·rw[hpk,ax]
     exact di.mpr ⟨nv,by simp,fun a' ha c hc z=>hev (by have hc:c=V.ref e:=aq.mp hc;rw[<- hc,<- z];exact ha)⟩
    ·intro b hb
     rw[hpk,ax] at hb;rcases a6.mp hb with z | z
     ·exact hf b z
     ·have z:V.ref b=V.ref e:=aq.mp z
      cases z;exact heH
    ·rw[hm2,a6,hm,aq]
  ·rintro σ G ⟨sG,kvs,ts,v2,hd,hwa,nd,nv,hf,hlt,hm,rfl⟩
   rw[aR,bv] at hwa;rw[aR,bv] at hm;intro D2 hD2;refine⟨_,rfl,aB,[(bx (tx p),.bl true)],rfl,(by show 1<=15;decide),?_⟩;have e1:upd (upd G D2 (.dK [])) D2 (.dK (nT [] [(bx (tx p),.bl true)]))=upd G D2 (.dK (tKs [p] (.bl true))):=by
    rw[uH];rfl
   rw[e1];have s2:=aE (o:=.dK (tKs [p] (.bl true))) hD2;refine⟨_,rfl,(by show 1<=sizeLine;omega),fun Wt hWt=>?_⟩;have s3:=aE (o:=.lst [T p]) hWt;have hWD:Wt≠D2:=fun z=>by rw[z,aB] at hWt;cases hWt
   have hDD2:D≠D2:=fun z=>by rw[z,hD2] at hd;cases hd
   have hDH2:H D2=none:=cH sG hD2;have hWH:H Wt=none:=cH (sG.trans s2) hWt;have hbnd:∀ fs:List (List Nat),fs.Nodup->Ap ms p fs->fs.length<=ms.length+1:=fun fs hn hle=>by
    have h1:=Dt.kO (b:=p::ms.map beg) hn (hle (fun k=>k∈p::ms.map beg) (am ..) fun w hw _=>ai _ (cy hw));rw[aw,aR] at h1;exact h1
   have hdG:=s3 D _ (s2 D _ hd);have hwaG:=(hwa.mono s2).mono s3;have hd2G:upd (upd G D2 (.dK (tKs [p] (.bl true)))) Wt (.lst [T p]) D2=some (.dK (tKs [p] (.bl true))):=by rw[aH hWD.symm];exact aB
   generalize hG3:upd (upd G D2 (.dK (tKs [p] (.bl true)))) Wt (.lst [T p])=G3 at hdG hwaG hd2G;have hwG:G3 Wt=some (.lst ([p].map T)):=by rw[<- hG3];exact aB
   have sG3:aM H G3:=by rw[<- hG3];exact sG.trans (s2.trans s3)
   refine⟨fun m σ G2=>∃ (fs wl:List (List Nat)) (v6 v7:Option V),m+2*fs.length=2*(ms.length+1)+wl.length∧aM H G2∧(∀ b o,b≠D2->b≠Wt->G3 b=some o->G2 b=some o)∧G2 D2=some (.dK (tKs fs (.bl true)))∧G2 Wt=some (.lst (wl.map T))∧fs.Nodup∧p∈fs∧(∀ z∈wl,z∈fs)∧Ap ms p fs∧(∀ w∈ms,w.drop 1∈fs->w.drop 1∈wl∨beg w∈fs)∧wl.length<=fs.length∧σ=[some (.ref a),some (T p),some (.ref D),v2,some (.ref D2),some (.ref Wt),v6,v7],
    ⟨2*ms.length+1,[p],[p],none,none,by show 2*ms.length+1+2*1=2*(ms.length+1)+1;omega,sG3,fun b o _ _ e=>e,hd2G,hwG,by simp,by simp,fun z hz=>hz,fun χ h1 _ k hk=>by rw[aq.mp hk];exact h1,fun w _ h=>.inl h,af _,rfl⟩,?_⟩
   rintro m σ G2 ⟨fs,wl,v6,v7,hmm,sG2,kp,hf2,hw2,hfn,hpf,hwf,hle,hcl,hwfl,rfl⟩;refine⟨_,rfl,(by show 0<=sizeLine;omega),fun E0 hE0=>?_⟩;have tE:=aE (o:=.lst []) hE0;refine⟨Wt,E0,wl,[],rfl,rfl,SqL.of (tE Wt _ hw2),SqL.of aB,_,rfl,?_⟩;by_cases hwe:wl=[]
   ·subst hwe
    refine itN (by rw[decide_eq_true rfl];exact ak) ?_;refine⟨_,rfl,?_⟩;exact q D2 fs _ hDH2 (sG2.trans tE) (tE D2 _ hf2) hfn hpf (fun w hw h=>(hcl w hw h).resolve_left (by simp)) hle
   ·refine itP (by rw[decide_eq_false hwe];rfl) ?_
    refine⟨_,fun σ' H' z=>z,?_⟩;obtain⟨wl',z,rfl⟩:∃ wl' z,wl=wl'++[z]:=⟨wl.dropLast,wl.getLast hwe,(lg hwe).symm⟩;have hE0D2:E0≠D2:=fun e=>by rw[e,hf2] at hE0;cases hE0
    have hE0W:E0≠Wt:=fun e=>by rw[e,hw2] at hE0;cases hE0
    have hzf:z∈fs:=hwf z (by simp);have hwfl2:wl'.length+1<=fs.length:=by rw[ag] at hwfl;exact hwfl
    refine⟨_,rfl,.inl ⟨rfl,_,SqL.of (tE Wt _ hw2)⟩,Wt,(wl'++[z]).map T,T z,rfl,rfl,tE Wt _ hw2,?_,?_⟩
    ·rw[aR,ag]
     show ((wl'++[z]).map T)[wl'.length+1-1]?=_;rw[ax,fg (by rw[aR];omega),aR,show wl'.length+1-1-wl'.length=0 by omega];rfl
    have hdl:((wl'++[z]).map T).dropLast=wl'.map T:=by rw[ax];exact List.dropLast_concat
    rw[hdl];have kp2:∀ b o,b≠D2->b≠Wt->G3 b=some o->upd (upd G2 E0 (.lst [])) Wt (.lst (wl'.map T)) b=some o:=fun b o h1 h2 e=>by rw[aH h2];exact tE b o (kp b o h1 h2 e)
    have sG4:aM H (upd (upd G2 E0 (.lst [])) Wt (.lst (wl'.map T))):=fun b o e=>by rw[aH (aK e hWH)];exact tE b o (sG2 b o e)
    have hf4:upd (upd G2 E0 (.lst [])) Wt (.lst (wl'.map T)) D2=some (.dK (tKs fs (.bl true))):=by rw[aH hWD.symm];exact tE D2 _ hf2
    have hw4:upd (upd G2 E0 (.lst [])) Wt (.lst (wl'.map T)) Wt=some (.lst (wl'.map T)):=aB;generalize upd (upd G2 E0 (.lst [])) Wt (.lst (wl'.map T))=G4 at kp2 sG4 hf4 hw4;have hDW:D≠Wt:=fun e=>by rw[e,hwG] at hdG;cases hdG
    have hd4:=kp2 D _ hDD2 hDW hdG;refine⟨_,rfl,D,rfl,.inl ⟨kvs,.inl hd4⟩,_,rfl,(by show 0<=sizeLine;omega),fun e5 he5=>?_⟩;have t5:=aE (o:=.lst []) he5;refine⟨_,gL.k (k:=bx (tx z)) (t5 D _ hd4),?_⟩;have hlist:∃ b,(eM kvs (bx (tx z))).getD (.ref e5) = .ref b∧upd G4 e5 (.lst []) b=some (.lst ((cg ms z).map T))∧b≠D2∧b≠Wt:=by
     by_cases hz:z∈ts
     ·obtain⟨b,hb1,hb2⟩:=hwaG.get hz
      have n1:b≠D2:=fun e=>by rw[e,hd2G] at hb2;cases hb2
      have n2:b≠Wt:=fun e=>by rw[e] at hb1;obtain⟨b',g1,g2⟩:=hwa.get hz;rw[g1] at hb1;cases hb1;rw[s2 _ _ g2] at hWt;cases hWt
      exact⟨b,by rw[hb1];rfl,t5 b _ (kp2 b _ n1 n2 hb2),n1,n2⟩
     ·refine⟨e5,by rw[nN hwaG hz];rfl,?_,(fun e=>by rw[e,hf4] at he5;cases he5),(fun e=>by rw[e,hw4] at he5;cases he5)⟩
      have:cg ms z=[]:=List.eq_nil_iff_forall_not_mem.mpr fun y hy=>by
       obtain⟨w,h1,h2,_⟩:=yY.mp hy;exact hz ((hm z).mpr ⟨w,h1,h2⟩)
      rw[this];exact aB
    obtain⟨b,hb1,hb2,hbD,hbW'⟩:=hlist;rw[hb1];refine⟨b,rfl,⟨_,SqL.of hb2⟩,?_⟩;have hcl0:(cg ms z).length<=ms.length:=by unfold cg;rw[aR];exact b8 ..
    refine cD (K:=K) (a:=b) (xs:=(cg ms z).map T) (fun j σ G5=>∃ (fs' wl2:List (List Nat)) (v7:Option V),fs'.length=fs.length+(wl2.length-wl'.length)∧wl'.length<=wl2.length∧aM H G5∧(∀ c o,c≠D2->c≠Wt->G3 c=some o->G5 c=some o)∧G5 b=some (.lst ((cg ms z).map T))∧G5 D2=some (.dK (tKs fs' (.bl true)))∧G5 Wt=some (.lst (wl2.map T))∧fs'.Nodup∧(∀ y∈fs,y∈fs')∧(∀ y∈wl',y∈wl2)∧(∀ y∈fs',y∈fs∨y∈wl2)∧(∀ y∈wl2,y∈fs')∧Ap ms p fs'∧(∀ y∈(cg ms z).take j,y∈fs')∧σ=[some (.ref a),some (T p),some (.ref D),v2,some (.ref D2),some (.ref Wt),some (T z),v7])
     ⟨fs,wl',v7,by omega,af _,sG4.trans t5,fun c o h1 h2 e=>t5 c o (kp2 c o h1 h2 e),hb2,t5 D2 _ hf4,t5 Wt _ hw4,hfn,fun y hy=>hy,fun y hy=>hy,fun y hy=>.inl hy,fun y hy=>hwf y (cn _ hy),hle,(fun y hy=>by rw[gh] at hy;cases hy),rfl⟩ (fun j σ G5 _ h=>by obtain⟨_,_,_,_,_,_,_,h,_⟩:=h;exact SqL.of h) ?_ ?_
    ·rintro j y σ G5 hj ⟨fs',wl2,v7,hln,hlw,sG5,kp5,hb5,hf5,hw5,hfn5,hsub,hwsub,hnew,hwin,hle5,hdone,rfl⟩
     obtain⟨y,hyj,rfl⟩:∃ y',(cg ms z)[j]?=some y'∧T y'=y:=by rw[aj] at hj;exact ba.mp hj
     have htk:(cg ms z).take (j+1)=(cg ms z).take j++[y]:=by rw[br,hyj];rfl
     obtain⟨w0,hw01,hw02,hw03⟩:=yY.mp (az hyj);have hb5l:=hbnd fs' hfn5 hle5;refine⟨_,rfl,_,rfl,D2,_,rfl,gL.k (k:=bx (tx y)) hf5,_,rfl,?_⟩;rw[Bd];by_cases hy:y∈fs'
     ·rw[if_pos hy]
      refine nK ?_;refine⟨fs',wl2,some (T y),hln,hlw,sG5,kp5,hb5,hf5,hw5,hfn5,hsub,hwsub,hnew,hwin,hle5,fun x hx=>?_,rfl⟩;rw[htk] at hx;rcases a6.mp hx with h | h
      ·exact hdone x h
      ·rw[aq.mp h];exact hy
     ·rw[if_neg hy]
      refine Jr ?_;refine⟨_,rfl,_,rfl,D2,_,rfl,xD.k (k:=bx (tx y)) hf5 (by rw[vN];omega),?_⟩;rw[Ko,show Hg.Pj fs' y=fs'++[y] from if_neg hy];have hw6:upd G5 D2 (.dK (tKs (fs'++[y]) (.bl true))) Wt=some (.lst (wl2.map T)):=by rw[aH hWD];exact hw5
      refine⟨_,rfl,.inl ⟨rfl,_,SqL.of hw6⟩,_,rfl,Wt,_,_,rfl,rfl,hw6,(by rw[aR];omega),?_⟩;refine⟨fs'++[y],wl2++[y],some (T y),by rw[ag,ag];show fs'.length+1=fs.length+(wl2.length+1-wl'.length);omega,by rw[ag];omega,fun c o e=>by rw[aH (aK e hWH),aH (aK e hDH2)];exact sG5 c o e,fun c o h1 h2 e=>by rw[aH h2,aH h1];exact kp5 c o h1 h2 e,by rw[aH hbW',aH hbD];exact hb5,by rw[aH hWD.symm];exact aB,by rw[aB,ax];rfl,?_,fun x hx=>cn _ (hsub x hx),fun x hx=>cn _ (hwsub x hx),fun x hx=>?_,fun x hx=>?_,fun χ h1 h2 k hk=>?_,fun x hx=>?_,rfl⟩
      ·exact di.mpr ⟨hfn5,by simp,fun a' ha c hc e=>hy (by rw[<- aq.mp hc,<- e];exact ha)⟩
      ·rcases a6.mp hx with h | h
       ·exact (hnew x h).elim .inl fun h=>.inr (cn _ h)
       ·exact .inr (av _ h)
      ·rcases a6.mp hx with h | h
       ·exact cn _ (hwin x h)
       ·exact av _ h
      ·rcases a6.mp hk with h | h
       ·exact hle5 χ h1 h2 k h
       ·rw[aq.mp h,<- hw03]
        exact h2 w0 hw01 (by rw[hw02];exact hle χ h1 h2 z hzf)
      ·rw[htk] at hx
       rcases a6.mp hx with h | h
       ·exact cn _ (hdone x h)
       ·exact av _ h
    ·rintro σ G5 ⟨fs',wl2,v7,hln,hlw,sG5,kp5,hb5,hf5,hw5,hfn5,hsub,hwsub,hnew,hwin,hle5,hdone,rfl⟩
     rw[aR,bv] at hdone;have hb5l:=hbnd fs' hfn5 hle5;rw[ag] at hmm hwfl;have hmm:m+2*fs.length=2*(ms.length+1)+(wl'.length+1):=hmm;have hwfl:wl'.length+1<=fs.length:=hwfl;refine⟨2*(ms.length+1)+wl2.length-2*fs'.length,by omega,fs',wl2,_,v7,by omega,sG5,kp5,hf5,hw5,hfn5,hsub p hpf,hwin,hle5,fun w hw h=>?_,by omega,rfl⟩;by_cases hwz:w.drop 1=z
     ·exact .inr (hdone _ (yY.mpr ⟨w,hw,hwz,rfl⟩))
     ·rcases hnew _ h with h1 | h1
      ·rcases hcl w hw h1 with h2 | h2
       ·rcases a6.mp h2 with h3 | h3
        ·exact .inl (hwsub _ h3)
        ·exact absurd (aq.mp h3) hwz
       ·exact .inr (hsub _ h2)
      ·exact .inl h1
def uF (K:ac):Sp:=fun vs H Q _=>∃ (a:Addr) (ns:List Int) (k:Nat),vs=[.ref a,.int (k:Nat)]∧SqL K H a (ns.map V.int)∧Q (.int (ns.getD k 0)) H
theorem oK {f:Addr}{fd:FuncData}(F:Fun K "_law_cell_at" "_law_cell_at" gK f fd)(tt:Txt K mg ad):cN P w K mg base (CX1 P w) 1 f fd ["script", "k"] (uF K):=by
 refine F.okN oO (fun vs H Q E h=>?_) (fun cdv A outer s H vs Q E hr h=>?_)
 ·obtain⟨a,ns,k,rfl,_⟩:=h
  rfl
 ·obtain⟨a,ns,k,rfl,hS,q⟩:=h
  refine⟨_,(aC (bU (aO yH (pv 1) (aN aP (by rfl) tt.b_len bc (aA (pv 0) aD)) (aY _)) (aF (bA (dC bX (pv 0) (pv 1) (fun _ _=>rfl)))) aV)
   (aF (bA aG))),?_⟩
  (try rw[dS]);(try rw[cxK1])
  refine⟨_,rfl,_,rfl,a,_,rfl,.inl hS,_,_,rfl,rfl,_,rfl,?_⟩;rw[aR];refine fN (fun h0=>?_) (fun h0=>?_)
  ·have h1:k<ns.length:=by have:=of_decide_eq_true h0;omega
   rw[ah,aa h1] at q;exact⟨_,rfl,_,rfl,a,_,_,_,rfl,rfl,hS,cQ (by rw[aj,aa h1];rfl),q⟩
  ·have h1:¬ k<ns.length:=fun z=>h0 (decide_eq_true (by omega))
   rw[ah,cp (by omega)] at q;exact q
theorem Fu {s:Int}(h0:0<=s)(h1:s<6):∃ c,atI [97,98,99,100,101,102] s=some c∧97<=c∧c<103:=by
 obtain⟨m,hm⟩:=Int.eq_ofNat_of_zero_le h0;have hm':s=(m:Int):=hm;subst hm';exact⟨97+m,cQ (Ta (by omega)),by omega,by omega⟩
def WL (ls:List (List Nat))(n:Nat):Prop:=(∀ x∈ls,x.length=n∧Abc x)∧ls.Nodup
theorem WL.sub {ls ls':List (List Nat)}{n:Nat}(h:WL ls n)(s:ls'.Sublist ls):WL ls' n:=⟨fun x hx=>h.1 x (s.subset hx),h.2.sublist s⟩
theorem WL.snoc {ls:List (List Nat)}{n:Nat}{t:List Nat}(h:WL ls n)(ht:t.length=n∧Abc t)(hn:¬ t∈ls):WL (ls++[t]) n:=by
 refine⟨fun x hx=>?_,di.mpr ⟨h.2,by simp,fun a ha b hb ee=>hn ?_⟩⟩
 ·rcases a6.mp hx with z | z
  ·exact h.1 x z
  ·have e:x=t:=by simpa using z
   subst e;exact ht
 ·have hb':b=t:=by simpa using hb
  rw[<- hb',<- ee];exact ha
theorem wE {k c:Nat}(h:c∈([97,98,99,100,101,102]:List Nat).take k):97<=c∧c<103:=by
 have:=lf h
 simp at this;omega
def Jq (K:ac):Sp:=fun vs H Q _=>∃ (c:Addr) (ns:List Int) (k:Nat) (f0:List Nat),vs=[.ref c,.int (k:Nat),T f0]∧SqL K H c (ns.map V.int)∧(ns.length<=63∧k<=6∧f0.length<=10)∧Abc f0 ∧
 ∀ (D:Addr) (ls:List (List Nat)) (H':Hp),aM H H'->H' D=some (.lst (ls.map T))->WL ls (f0.length+1)->ls.length<=ns.length->Q (.ref D) H'
theorem vK {f:Addr}{fd:FuncData}(F:Fun K "_law_walk" "_law_walk" gQ f fd)(tt:Txt K mg ad):cN P w K mg base (CX1 P w) 1 f fd ["cells", "kinds", "first"] (Jq K):=by
 refine F.okN dL (fun vs H Q E h=>?_) (fun cdv A outer s H vs Q E hr h=>?_)
 ·obtain⟨c,ns,k,f0,rfl,_⟩:=h
  rfl
 ·obtain⟨c,ns,k,f0,rfl,hS,hb,hf0,q⟩:=h
  have hs:sizeLine=16777216:=sizeLine_eq;have hnl:(ns.map V.int).length=ns.length:=aR ..;refine⟨_,(aC (aJ (i:=3) dL.nd rfl (Or.inr rfl) (bT aD))
   (aC (aJ (i:=4) dL.nd rfl (Or.inr rfl) (pv 2))
   (aC (bZ PassesOwn.never rfl (bL (pv 0)) (bG (i:=5) dL.nd rfl (Or.inl rfl)) (aC (jQ (i:=6) qL rfl (yT (aS lA (bW [97,98,99,100,101,102] (by decide +kernel)) bD (aX (pv 1)))) (fun cl C s' H' fp=>(aO (rZ K rfl) (aL hG (pv 5) (pv 0)) (pv 4) (by with_unfolding_all rfl))) (fun cl C s' H' fp=>(aL hG (pv 5) (pv 0))) dL.nd rfl rfl)
   (aC (bU (aO eA (aN aP (by rfl) tt.b_len bc (aA (pv 6) aD)) aG (aY _)) (aF Fa) aV)
   (aC (aJ (i:=7) dL.nd rfl (Or.inl rfl) (dC bX (pv 6) (aL cK (pv 5) (aN aP (by rfl) tt.b_len bc (aA (pv 6) aD))) (fun _ _=>rfl)))
   (aC (cW (iC bz cq cr cL (pv 3) (aA (pv 7) aD)))
   (aF (aJ (i:=4) dL.nd rfl (Or.inr rfl) (aS lA (pv 7) (aX aG) bD))))))))
   (aF (bA (pv 3)))))),?_⟩
  (try rw[dS]);(try rw[cxK1])
  refine⟨(by show 0<=sizeLine;omega),fun D hD=>?_⟩;have s0:=aE (o:=.lst []) hD;refine⟨_,rfl,?_⟩;refine⟨_,rfl,c,rfl,⟨_,s0.seq hS⟩,?_⟩;refine cD (K:=K) (a:=c) (xs:=ns.map V.int) (fun i σ H2=>aM H H2∧∃ (ls:List (List Nat)) (hh:List Nat) (v5 v6 v7:Option V),H2 D=some (.lst (ls.map T))∧WL ls (f0.length+1)∧ls.length<=i∧hh.length=f0.length∧Abc hh∧σ=[some (.ref c),some (.int (k:Nat)),some (T f0),some (.ref D),some (T hh),v5,v6,v7])
   ⟨s0,[],f0,none,none,none,aB,⟨fun x hx=>(by simp at hx),gx⟩,af _,rfl,hf0,rfl⟩ (fun i σ H2 _ h=>h.1.seq hS) ?_ ?_
  ·rintro i y σ H2 hi ⟨s2,ls,hh,v5,v6,v7,hd,hwl,hl,hhl,hab,rfl⟩
   have hi63:i<ns.length:=by have:=(al.mp hi).1;omega
   obtain⟨z,rfl⟩:∃ z,y=V.int z:=by
    obtain⟨z,_,e⟩:=ar.mp (az hi);exact⟨z,e.symm⟩
   refine⟨_,rfl,_,rfl,_,rfl,(by show 6<=sizeLine;omega),?_⟩;have ec:fX [97,98,99,100,101,102] none (some ((k:Nat):Int))=([97,98,99,100,101,102]:List Nat).take k:=sP _ _;rw[ec];refine⟨_,rfl,?_⟩;generalize hsg:([97,98,99,100,101,102]:List Nat).take k=sg;have hsgl:sg.length<=6:=by rw[<- hsg,a8];exact ki _ _
   have hsga:∀ c∈sg,97<=c∧c<103:=fun c hc=>wE (by rw[hsg];exact hc)
   refine wD (vs:=(sg.map fun c=>[c]).map T) (fun v=>!decide (hh++unT v∈ls)) (fun v=>T (hh++unT v)) qH (by rw[aR,aR];omega) (fun v H3 hv s3 N hN=>?_) (fun v H3 hv hp s3 N hN=>?_) fun D1 H3 hD1 s3 hd3=>?_
   ·obtain⟨l,hl',rfl⟩:=ar.mp hv
    obtain⟨ch,hch,rfl⟩:=ar.mp hl';have g:=hN H3 (aM.refl _);rw[dP] at g;refine⟨_,rfl,_,rfl,_,rfl,_,rfl,(by show hh.length+1<=sizeLine;omega),_,rfl,D,_,rfl,.inl (SqL.of (s3 D _ hd)),rfl,iI ls,_,rfl,?_⟩;show N (!inV (T (hh++[ch])) (ls.map T)) H3;rw[tY];exact g
   ·obtain⟨l,hl',rfl⟩:=ar.mp hv
    obtain⟨ch,hch,rfl⟩:=ar.mp hl';have g:=hN H3 (aM.refl _);rw[dP] at g;exact⟨_,rfl,_,rfl,_,rfl,_,rfl,(by show hh.length+1<=sizeLine;omega),g⟩
   obtain⟨fr,hfr,hfm⟩:∃ fr:List (List Nat),(((sg.map fun c=>[c]).map T).filter (fun v=>!decide (hh++unT v∈ls))).map (fun v=>T (hh++unT v))=fr.map T∧∀ t∈fr,(t.length=f0.length+1∧Abc t)∧¬ t∈ls:=by
    refine⟨((sg.map fun c=>[c]).filter fun l=>!decide (hh++l∈ls)).map fun l=>hh++l,?_,fun t ht=>?_⟩
    ·rw[show ((sg.map fun c=>[c]).map T).filter (fun v=>!decide (hh++unT v∈ls))=((sg.map fun c=>[c]).filter fun l=>!decide (hh++l∈ls)).map T from gE (p:=fun l=>!decide (hh++l∈ls)) _,fU (f:=fun l=>T (hh++l)),bf]
     rfl
    ·obtain⟨l,hl',rfl⟩:=ar.mp ht
     obtain⟨h1,h2⟩:=cf.mp hl';obtain⟨ch,hch,rfl⟩:=ar.mp h1;refine⟨⟨by rw[ag,hhl];rfl,fun d hd'=>?_⟩,fun z=>by rw[decide_eq_true z] at h2;cases h2⟩;rcases a6.mp hd' with g | g
     ·exact hab d g
     ·have e:d=ch:=by simpa using g
      subst e;exact hsga d hch
   rw[hfr] at hd3;have hfl:(fr.map T).length=fr.length:=aR ..;refine⟨_,rfl,D1,_,rfl,.inl (SqL.of hd3),_,rfl,_,rfl,_,rfl,?_⟩;rw[hfl];refine fN (fun h0=>?_) (fun h0=>?_)
   ·exact⟨_,rfl,q D ls H3 (s2.trans s3) (s3 D _ hd) hwl (by omega)⟩
   have hf0:0<fr.length:=by
    rcases qa fr.length with g | g
    ·exact absurd (decide_eq_true (by rw[g];rfl)) h0
    ·exact g
   have z0:=db z (show ((fr.length:Nat):Int)≠0 by omega);have z1:=ck z (show (0:Int)<((fr.length:Nat):Int) by omega);obtain⟨m,hm,hml⟩:∃ m:Nat,z % ((fr.length:Nat):Int)=(m:Int)∧m<fr.length:=⟨(z % ((fr.length:Nat):Int)).toNat,by omega,by omega⟩;obtain⟨t,ht⟩:∃ t,fr[m]?=some t:=⟨_,aa hml⟩;obtain⟨htn,htl⟩:=hfm t (az ht);refine⟨_,rfl,_,rfl,_,rfl,D1,_,rfl,.inl (SqL.of hd3),_,_,rfl,rfl,(by show (0:Int)<(((fr.map T).length:Nat):Int);omega),D1,_,_,_,rfl,rfl,SqL.of hd3,(by rw[hfl,hm];exact cQ (by rw[aj,ht];rfl)),?_⟩;refine⟨_,rfl,.inl ⟨rfl,_,SqL.of (s3 D _ hd)⟩,_,rfl,D,_,_,rfl,rfl,s3 D _ hd,(by rw[aR];omega),?_⟩;have ed:fX t (some 1) none=t.drop 1:=hJ (k:=1) (by omega);refine⟨_,rfl,_,rfl,_,rfl,(by omega),?_⟩;refine⟨(fun b o e=>by rw[aH (aK e hD)];exact (s2.trans s3) b o e),ls++[t],t.drop 1,some (.int z),some (.ref D1),some (T t),by rw[ax];exact aB,hwl.snoc htn htl,by rw[ag,da];omega,by rw[bn];omega,fun d hd'=>htn.2 d (lc hd'),?_⟩;rw[<- ed];rfl
  ·rintro σ H2 ⟨s2,ls,hh,v5,v6,v7,hd,hwl,hl,hhl,hab,rfl⟩
   exact⟨_,rfl,q D ls H2 s2 hd hwl (by omega)⟩
theorem Dn {ns:List Int}{lo hi:Option Int}:∃ ms:List Int,cP (ns.map V.int) lo hi=ms.map V.int:=by
 refine⟨(ns.drop (HT.sIx ns.length 0 lo)).take (HT.sIx ns.length ns.length hi-HT.sIx ns.length 0 lo),?_⟩;rw[cP,aR,jq,jp]
theorem uS {xs:List V}{a b:Nat}:(cP xs (some (a:Int)) (some (b:Int))).length<=b-a:=by
 unfold cP;rw[HT.eY,HT.eY,a8,bn];omega
theorem Mz {l:List Int}{lo hi:Int}(h:∀ x∈l,lo<=x∧x<=hi){z:Int}(h0:0<=z)(h1:z<l.length):∃ v:Int,atI (l.map V.int) z=some (.int v)∧lo<=v∧v<=hi:=by
 obtain⟨m,rfl⟩:∃ m:Nat,z=(m:Int):=⟨z.toNat,by omega⟩;have hm:m<l.length:=by omega
 obtain⟨a,b⟩:=h _ (b6 hm);exact⟨l[m],cQ (by rw[aj,aa hm];rfl),a,b⟩
theorem Dg {ls:List (List Nat)}:cP (ls.map T) none (some (-1))=(ls.take (ls.length-1)).map T:=by
 unfold cP;rw[HT.eS,jb,jh,aR,jq];show (ls.map T).take (if (-1:Int)<0 then ((-1:Int)+(ls.length:Int)).toNat else min (-1:Int).toNat ls.length)=_;rw[if_pos (by decide),show ((-1:Int)+(ls.length:Int)).toNat=ls.length-1 by omega]
theorem Mm (n:Nat):(Wd.rep n [97]).length=n∧Abc (Wd.rep n [97]):=by
 refine⟨by rw[Wd.Bb];show n*1=n;omega,fun c hc=>?_⟩;unfold Wd.rep at hc;obtain⟨l,h1,h2⟩:=List.mem_flatten.mp hc;rw[List.eq_of_mem_replicate h1] at h2;have e:c=97:=by simpa using h2
 omega
theorem WL.one {n:Nat}{t:List Nat}(h:t.length=n∧Abc t):WL [t] n:=⟨fun x hx=>by rw[aq.mp hx];exact h,by simp⟩
def yF (K:ac):Sp:=fun vs H Q _=>∃ (a:Addr) (ns:List Int),vs=[.ref a,.int 0,.int 11]∧SqL K H a (ns.map V.int)∧∀ (D:Addr) (ls:List (List Nat)) (n:Nat) (H':Hp),aM H H'->H' D=some (.lst (ls.map T))->WL ls n->(1<=n∧n<=5)->ls≠[]->ls.length<=11->Q (.ref D) H'
theorem lT {f:Addr}{fd:FuncData}(F:Fun K "_law_ring_words" "_law_ring_words" eV f fd)(tt:Txt K mg ad)(C__law_cell_at:Cal P w K mg base (CX1 P w) "_law_cell_at" 1 ["script", "k"] (uF K))(C__law_walk:Cal P w K mg base (CX1 P w) "_law_walk" 1 ["cells", "kinds", "first"] (Jq K)) :
  cN P w K mg base (CX1 P w) 2 f fd ["script", "at", "most"] (yF K):=by
 refine F.okN aZ (fun vs H Q E h=>?_) (fun cdv A outer s H vs Q E hr h=>?_)
 ·obtain⟨a,ns,rfl,_⟩:=h
  rfl
 ·obtain⟨a,ns,rfl,hS,q⟩:=h
  have hs:sizeLine=16777216:=sizeLine_eq;obtain⟨nz,hnz,n1,n5⟩:=Mz (l:=[2,3,1,4,2,3,5]) (lo:=1) (hi:=5) (by decide) (db (ns.getD 0 0) (show (7:Int)≠0 by decide)) (ck _ (show (0:Int)<7 by decide));obtain⟨kz,hkz,k1,k6⟩:=Mz (l:=[2,3,2,2,4,6,2,1]) (lo:=1) (hi:=6) (by decide) (db (ns.getD 1 0) (show (8:Int)≠0 by decide)) (ck _ (show (0:Int)<8 by decide));obtain⟨n,rfl⟩:∃ n:Nat,nz=(n:Int):=⟨nz.toNat,by omega⟩;obtain⟨k,rfl⟩:∃ k:Nat,kz=(k:Int):=⟨kz.toNat,by omega⟩;refine⟨_,(aC (aJ (i:=3) aZ.nd rfl (Or.inl rfl) (dC bX (bT (aA aG (aA aG (aA aG (aA aG (aA aG (aA aG (aA aG aD)))))))) (aL cK (aU C__law_cell_at hr bQ (aA (pv 0) (aA (pv 1) aD))) aG) (fun _ _=>rfl)))
   (aC (aJ (i:=4) aZ.nd rfl (Or.inl rfl) (dC bX (bT (aA aG (aA aG (aA aG (aA aG (aA aG (aA aG (aA aG (aA aG aD))))))))) (aL cK (aU C__law_cell_at hr bQ (aA (pv 0) (aA (aL cU (pv 1) aG) aD))) aG) (fun _ _=>rfl)))
   (aC (aJ (i:=5) aZ.nd rfl (Or.inl rfl) (aU C__law_cell_at hr bQ (aA (pv 0) (aA (aL cU (pv 1) aG) aD))))
   (aC (aJ (i:=6) aZ.nd rfl (Or.inl rfl) (bW [] (by decide +kernel)))
   (aC (bZ PassesOwn.never rfl (gB (by rfl) tt.b_range (aA (aL jP (pv 3) aG) aD)) (bG (i:=7) aZ.nd rfl (Or.inl rfl)) (aC (aJ (i:=6) aZ.nd rfl (Or.inl rfl) (aL hG (pv 6) (dC Sm (bW [97,98,99,100,101,102] (by decide +kernel)) (aL cK (pv 5) (pv 4)) (fun _ _=>rfl))))
   (aF (aJ (i:=5) aZ.nd rfl (Or.inl rfl) (aL fZ (pv 5) (pv 4))))))
   (aC (aJ (i:=8) aZ.nd rfl (Or.inl rfl) (aU C__law_walk hr bQ (aA (aS cC (pv 0) (aX (aL cU (pv 1) aG)) (aX (aL cU (aL cU (pv 1) aG) (pv 2)))) (aA (pv 4) (aA (pv 6) aD)))))
   (aC (kC PassesOwn.never (PW.pt (vH (aO kB (aN aP (by rfl) tt.b_len bc (aA (pv 8) aD)) aG (aY _)) (pH (aO pA (aS lA (dC bX (pv 8) (kD gI aG) (fun _ _=>rfl)) (aX aG) bD) (pv 6) (aY _))))) (aF (aJ (i:=8) aZ.nd rfl (Or.inl rfl) (aS cC (pv 8) bD (aX (kD gI aG))))))
   (aC (bU (aO eA (aN aP (by rfl) tt.b_len bc (aA (pv 8) aD)) aG (aY _)) (aF (aJ (i:=8) aZ.nd rfl (Or.inl rfl) (bT (aA (aL wR (bW [97] (by decide +kernel)) (pv 3)) aD)))) aV)
   (aF (bA (pv 8))))))))))),?_⟩
  (try rw[dS]);(try rw[cxK1])
  refine⟨(by show 7<=sizeLine;omega),fun p1 hp1=>?_⟩;have s1:=aE (o:=.lst [.int 2,.int 3,.int 1,.int 4,.int 2,.int 3,.int 5]) hp1;refine⟨_,rfl,_,rfl,a,ns,0,rfl,s1.seq hS,_,_,rfl,rfl,(by show (0:Int)<7;decide),p1,_,_,_,rfl,rfl,SqL.of aB,hnz,?_⟩;refine⟨(by show 8<=sizeLine;omega),fun p2 hp2=>?_⟩;have s2:=s1.trans (aE (o:=.lst [.int 2,.int 3,.int 2,.int 2,.int 4,.int 6,.int 2,.int 1]) hp2);refine⟨_,rfl,_,rfl,_,_,rfl,rfl,a,ns,1,rfl,s2.seq hS,_,_,rfl,rfl,(by show (0:Int)<8;decide),p2,_,_,_,rfl,rfl,SqL.of aB,hkz,?_⟩;obtain⟨H2,hH2,s2⟩:=Fp s2;rw[<- hH2];refine⟨_,rfl,_,rfl,_,_,rfl,rfl,a,ns,2,rfl,s2.seq hS,?_⟩;refine⟨_,rfl,_,_,rfl,rfl,_,rfl,by omega,by omega,?_⟩;rw[show (((n:Nat):Int)-1).toNat=n-1 by omega];refine gA (fun i σ H3=>H2=H3∧∃ (d:Int) (t:List Nat) (v7:Option V),t.length=i∧Abc t∧σ=[some (.ref a),some (.int 0),some (.int 11),some (.int (n:Nat)),some (.int (k:Nat)),some (.int d),some (T t),v7,none])
   ⟨rfl,ns.getD 2 0,[],none,rfl,(fun c hc=>by simp at hc),rfl⟩ ?_ ?_
  ·rintro i σ H3 hi ⟨rfl,d,t,v7,ht,hab,rfl⟩
   have z0:=db d (show ((k:Nat):Int)≠0 by omega);have z1:=ck d (show (0:Int)<((k:Nat):Int) by omega);obtain⟨c,hc,c0,c1⟩:=Fu z0 (by omega);refine⟨_,rfl,_,rfl,_,rfl,_,_,rfl,rfl,(by show (0:Int)<((k:Nat):Int);omega),_,rfl,_,rfl,(by show 6<=sizeLine;omega),c,hc,_,rfl,_,rfl,(by show t.length+1<=sizeLine;omega),?_⟩;refine⟨_,rfl,_,rfl,_,_,rfl,rfl,⟨by omega,by omega⟩,?_⟩;refine⟨rfl,d/((k:Nat):Int),t++[c],some (.int (0+(i:Int))),by rw[ag,ht];rfl,fun e he=>?_,rfl⟩;rcases a6.mp he with g | g
   ·exact hab e g
   ·have e':e=c:=by simpa using g
    subst e';exact⟨c0,c1⟩
  ·rintro σ H3 ⟨rfl,d,f0,v7,hf,hab,rfl⟩
   obtain⟨ds,hds⟩:∃ ds:List Int,cP (ns.map V.int) (some ((3:Nat):Int)) (some ((14:Nat):Int))=ds.map V.int:=Dn;have hdl:ds.length<=11:=by
    have e:=congrArg ge hds;have e2:=uS (xs:=ns.map V.int) (a:=3) (b:=14);rw[aR] at e;omega
   refine⟨_,rfl,_,rfl,_,_,rfl,rfl,_,rfl,_,rfl,_,_,rfl,rfl,_,rfl,_,_,rfl,rfl,_,rfl,a,_,rfl,s2.seq hS,fun p4 hp4=>?_⟩;rw[show cP (ns.map V.int) (some ((0:Int)+3)) (some ((0:Int)+3+11))=ds.map V.int from hds];have s4:=s2.trans (aE (o:=.lst (ds.map V.int)) hp4);refine⟨_,rfl,_,rfl,p4,ds,k,f0,rfl,SqL.of aB,⟨by omega,by omega,by omega⟩,hab,fun D ls H5 s5 hd hwl hl=>?_⟩;have hn':f0.length+1=n:=by omega
   rw[hn'] at hwl;have s05:=s4.trans s5;refine⟨fun m σ H6=>∃ (p:Addr) (ls':List (List Nat)),m=ls'.length∧aM H H6∧H6 p=some (.lst (ls'.map T))∧WL ls' n∧ls'.length<=11∧σ=[some (.ref a),some (.int 0),some (.int 11),some (.int (n:Nat)),some (.int (k:Nat)),some (.int d),some (T f0),v7,some (.ref p)],⟨ls.length,D,ls,rfl,s05,hd,hwl,by omega,rfl⟩,?_⟩;rintro m σ H6 ⟨p,ls',hm,s6,hd6,hw6,hl6,rfl⟩;have hml:(ls'.map T).length=ls'.length:=aR ..;have fin:∀ (D:Addr) (ls2:List (List Nat)) (H':Hp),aM H H'->H' D=some (.lst (ls2.map T))->WL ls2 n->ls2≠[]->ls2.length<=11->Q (.ref D) H':=fun D ls2 H' h1 h2 h3 h4 h5=>q D ls2 n H' h1 h2 h3 ⟨by omega,by omega⟩ h4 h5
   refine⟨_,rfl,p,_,rfl,.inl (SqL.of hd6),_,_,rfl,rfl,_,rfl,?_⟩;rw[hml];refine fN (fun h0=>?a) (fun h0=>?b)
   case' a =>
    have h0':0<ls'.length:=by have:=of_decide_eq_true h0;omega
    obtain⟨t,ht⟩:∃ t,ls'[ls'.length-1]?=some t:=⟨_,aa (by omega)⟩;have htl:=(hw6.1 t (az ht)).1;have hat:atI (ls'.map T) (-1)=some (T t):=by
     show (ixN (ls'.map T).length (-1)).bind _=_;rw[hml];unfold ixN;rw[if_neg (by decide),if_pos (by omega),show ((-1:Int)+ls'.length).toNat=ls'.length-1 by omega];show (ls'.map T)[ls'.length-1]?=_;rw[aj,ht];rfl
    refine⟨_,rfl,_,rfl,p,_,_,_,rfl,rfl,SqL.of hd6,hat,_,rfl,_,rfl,(by omega),_,rfl,_,rfl,_,rfl,_,rfl,?_⟩;refine fN (fun h1=>?a1) (fun h1=>?a2)
   case a1 =>
    refine⟨_,fun σ' H' z=>z,?_⟩;refine⟨_,rfl,_,rfl,_,rfl,p,_,rfl,SqL.of hd6,fun p7 hp7=>?_⟩;rw[show cP (ls'.map T) none (some (-(1:Int)))=(ls'.take (ls'.length-1)).map T from Dg];have htk:(ls'.take (ls'.length-1)).length=ls'.length-1:=by rw[a8];omega
    exact⟨ls'.length-1,by omega,p7,ls'.take (ls'.length-1),htk.symm,s6.trans (aE hp7),aB,hw6.sub (fh _ _),by omega,rfl⟩
   all_goals
    refine⟨_,rfl,p,_,rfl,.inl (SqL.of hd6),_,rfl,_,rfl,_,rfl,?_⟩;rw[hml];refine fN (fun h2=>?_) (fun h2=>?_)
    ·refine⟨_,rfl,_,rfl,n,rfl,⟨by omega,by show n*1<=sizeLine;omega⟩,(by show 1<=sizeLine;omega),fun p7 hp7=>?_⟩
     exact⟨_,rfl,fin p7 [Wd.rep n [97]] _ (s6.trans (aE hp7)) aB (WL.one (Mm n)) (by simp) (by show 1<=11;decide)⟩
    ·exact⟨_,rfl,fin p ls' H6 s6 hd6 hw6 (fun z=>h2 (decide_eq_true (by rw[z];rfl))) hl6⟩
def ext (ws:List (List Nat))(sg:List Nat):List (List Nat):=ws.flatMap fun w=>sg.map fun c=>w++[c]
theorem Gs (ws:List (List Nat))(w:List Nat)(sg:List Nat):ext (ws++[w]) sg=ext ws sg++sg.map fun c=>w++[c]:=by
 unfold ext;rw[ll];simp
theorem uW (sg:List Nat):∀ ws:List (List Nat),(ext ws sg).length=ws.length*sg.length
 | []=>by simp[ext]
 | w::ws=>by
  have ih:=uW sg ws;unfold ext at ih ⊢;rw[ca,ag,ih,aR,aw,Nat.succ_mul,iw]
theorem Br {ws:List (List Nat)}{sg:List Nat}{x:List Nat}(h:x∈ext ws sg):∃ w∈ws,∃ c∈sg,x=w++[c]:=by
 obtain⟨w,hw,hx⟩:=ik.mp h;obtain⟨c,hc,e⟩:=ar.mp hx;exact⟨w,hw,c,hc,e.symm⟩
theorem tV {sg:List Nat}(hs:sg.Nodup):∀ {ws:List (List Nat)},ws.Nodup->(ext ws sg).Nodup
 | [],_=>gx
 | w::ws,h=>by
  rw[b9] at h;have ih:=tV hs h.2;show (ext (w::ws) sg).Nodup;have e:ext (w::ws) sg=(sg.map fun c=>w++[c])++ext ws sg:=by unfold ext;rw[ca]
  rw[e];refine di.mpr ⟨?_,ih,fun a ha b hb ee=>h.1 ?_⟩
  ·refine fk.mpr (hs.imp fun hne z=>hne ?_)
   have:=List.append_cancel_left z
   simpa using this
  ·obtain⟨c,hc,e1⟩:=ar.mp ha
   obtain⟨w',hw',c',hc',e2⟩:=Br hb;have z:w++[c]=w'++[c']:=e1.trans (ee.trans e2);have z2:=(List.append_inj' z rfl).1;rw[z2];exact hw'
theorem WL.ext {ws:List (List Nat)}{sg:List Nat}{i:Nat}(h:WL ws i)(hs:sg.Nodup)(ha:∀ c∈sg,97<=c∧c<103):WL (ext ws sg) (i+1):=by
 refine⟨fun x hx=>?_,tV hs h.2⟩;obtain⟨w,hw,c,hc,rfl⟩:=Br hx;obtain⟨h1,h2⟩:=h.1 w hw;refine⟨by rw[ag,h1];rfl,fun d hd=>?_⟩;rcases a6.mp hd with g | g
 ·exact h2 d g
 ·have e:d=c:=by simpa using g
  subst e;exact ha d hc
def Aj:Sp:=fun vs H Q _=>∃ (k n:Nat),vs=[.int (k:Nat),.int (n:Nat)]∧(k<=6∧n<=4)∧∀ (D:Addr) (ls:List (List Nat)) (H':Hp),H D=none->aM H H'->H' D=some (.lst (ls.map T))->WL ls n->ls.length<=2000->Q (.ref D) H'
theorem rY {f:Addr}{fd:FuncData}(F:Fun K "_law_every" "_law_every" fY f fd)(tt:Txt K mg ad):cN P w K mg base (CX1 P w) 1 f fd ["kinds", "length"] Aj:=by
 refine F.okN dQ (fun vs H Q E h=>?_) (fun cdv A outer s H vs Q E hr h=>?_)
 ·obtain⟨k,n,rfl,_⟩:=h
  rfl
 ·obtain⟨k,n,rfl,hb,q⟩:=h
  have hs:sizeLine=16777216:=sizeLine_eq;obtain⟨sg,hsg,hsgl,hsga,hsgn⟩:∃ sg:List Nat,fX [97,98,99,100,101,102] none (some ((k:Nat):Int))=sg∧sg.length<=6∧(∀ c∈sg,97<=c∧c<103)∧sg.Nodup :=
   ⟨_,sP _ _,by rw[a8];exact ki _ _,fun c hc=>wE hc,(show ([97,98,99,100,101,102]:List Nat).Nodup by decide).sublist (fh _ _)⟩
  refine⟨_,(aC (aJ (i:=2) dQ.nd rfl (Or.inl rfl) (bT (aA (bW [] (by decide +kernel)) aD)))
   (aC (bZ PassesOwn.never rfl (gB (by rfl) tt.b_range (aA (pv 1) aD)) (bG (i:=3) dQ.nd rfl (Or.inl rfl)) (aC (aJ (i:=4) dQ.nd rfl (Or.inl rfl) (bT aD))
   (aC (bZ PassesOwn.never rfl (bL (pv 2)) (bG (i:=5) dQ.nd rfl (Or.inr rfl)) (aF (cW (iC bz PySem.F.slot_list_extend PySem.F.type_list_extend Dm (pv 4) (aA (dU oM rfl (yT (aS lA (bW [97,98,99,100,101,102] (by decide +kernel)) bD (aX (pv 0)))) (fun cl C s' H' fp=>(aL hG (pv 6) (pv 0)))) aD)))))
   (aF (aJ (i:=2) dQ.nd rfl (Or.inl rfl) (pv 4))))))
   (aF (bA (pv 2))))),?_⟩
  (try rw[dS]);(try rw[cxK1])
  refine⟨(by show 1<=sizeLine;omega),fun p0 hp0=>?_⟩;refine⟨_,rfl,_,rfl,by omega,by omega,?_⟩;rw[bt];refine gA (fun i σ H2=>aM H H2∧∃ (p:Addr) (ls:List (List Nat)) (v3 v4 v5:Option V),H p=none∧H2 p=some (.lst (ls.map T))∧WL ls i∧ls.length<=6 ^ i∧σ=[some (.int (k:Nat)),some (.int (n:Nat)),some (.ref p),v3,v4,v5])
   ⟨aE hp0,p0,[[]],none,none,none,hp0,aB,⟨fun x hx=>by rw[aq.mp hx];exact⟨rfl,fun c hc=>by simp at hc⟩,by simp⟩,(by decide),rfl⟩ ?_ ?_
  ·rintro i σ H2 hi ⟨s2,p,ls,v3,v4,v5,hpn,hd,hwl,hl,rfl⟩
   have hl3:ls.length<=216:=a7 hl (d9 (by decide) (show i<=3 by omega));refine⟨(by show 0<=sizeLine;omega),fun D hD=>?_⟩;have s3:=aE (o:=.lst []) hD;refine⟨_,rfl,p,rfl,⟨_,SqL.of (s3 p _ hd)⟩,?_⟩;refine cD (K:=K) (a:=p) (xs:=ls.map T) (fun j σ H3=>aM H2 H3∧∃ (v5:Option V),H3 D=some (.lst ((ext (ls.take j) sg).map T))∧σ=[some (.int (k:Nat)),some (.int (n:Nat)),some (.ref p),some (.int (0+(i:Int))),some (.ref D),v5])
    ⟨s3,v5,aB,rfl⟩ (fun j σ H3 _ h=>SqL.of (h.1 p _ hd)) ?_ ?_
   ·rintro j y σ H3 hj ⟨s4,v5,hd4,rfl⟩
    obtain⟨wd,hwd,rfl⟩:∃ wd,ls[j]?=some wd∧y=T wd:=by
     rw[aj] at hj;obtain⟨x,h1,h2⟩:=ba.mp hj;exact⟨x,h1,h2.symm⟩
    have hwdl:=(hwl.1 wd (az hwd)).1;refine⟨_,rfl,.inl ⟨rfl,_,SqL.of hd4⟩,_,rfl,_,rfl,_,rfl,(by show 6<=sizeLine;omega),?_⟩;rw[hsg];refine⟨_,rfl,?_⟩;refine jC (vs:=(sg.map fun c=>[c]).map T) (fun v=>T (wd++unT v)) qH (by rw[aR,aR];omega) (fun v H5 hv s5 N hN=>?_) fun D1 H5 hD1 s5 hd5=>?_
    ·obtain⟨l,hl',rfl⟩:=ar.mp hv
     obtain⟨ch,hch,rfl⟩:=ar.mp hl';have g:=hN H5 (aM.refl _);rw[dP] at g;exact⟨_,rfl,_,rfl,_,rfl,_,rfl,(by show wd.length+1<=sizeLine;omega),g⟩
    rw[fU (f:=fun l=>T (wd++l)),bf] at hd5;have e5:sg.map ((fun l=>T (wd++l))∘fun c=>[c])=(sg.map fun c=>wd++[c]).map T:=by rw[bf];rfl
    rw[e5] at hd5;have hjl:j<ls.length:=(al.mp hwd).1;have el:=uW sg (ls.take j);have htk:(ls.take j).length<=216:=by rw[a8];omega
    have hm:(ls.take j).length*sg.length<=216*6:=fj htk hsgl;refine⟨D,D1,_,_,rfl,rfl,s5 D _ hd4,hd5,(by rw[aR,aR,aR,el];omega),?_⟩;refine⟨(fun b o e=>by rw[aH (aK e hD)];exact (s4.trans s5) b o e),some (T wd),?_,rfl⟩;rw[br,hwd,show (some wd).toList=[wd] from rfl,Gs,ax];exact aB
   ·rintro σ H3 ⟨s4,v5',hd4,rfl⟩
    rw[aR,bv] at hd4;refine⟨_,rfl,?_⟩;have hDn:H D=none:=by
     cases e:H D with
     | none=>rfl
     | some o=>exact absurd ((s2 D o e).symm.trans hD) (fun z=>nomatch z)
    refine⟨s2.trans s4,D,ext ls sg,some (.int (0+(i:Int))),some (.ref D),v5',hDn,hd4,hwl.ext hsgn hsga,?_,rfl⟩;rw[uW,jf];exact fj hl hsgl
  ·rintro σ H2 ⟨s2,p,ls,v3,v4,v5,hpn,hd,hwl,hl,rfl⟩
   have hl4:ls.length<=1296:=a7 hl (d9 (by decide) (show n<=4 by omega));exact⟨_,rfl,q p ls H2 hpn s2 hd hwl (by omega)⟩
def Ah:Sp:=fun vs H Q _=>∃ (cell:Int),vs=[.int cell,.int 11]∧∀ (D:Addr) (ls:List (List Nat)) (n:Nat) (H':Hp),aM H H'->H' D=some (.lst (ls.map T))->WL ls n->(1<=n∧n<=5)->ls≠[]->ls.length<=11->Q (.ref D) H'
theorem kX {f:Addr}{fd:FuncData}(F:Fun K "_law_digit_words" "_law_digit_words" eL f fd)(tt:Txt K mg ad)(C__law_every:Cal P w K mg base (CX1 P w) "_law_every" 1 ["kinds", "length"] Aj):cN P w K mg base (CX1 P w) 2 f fd ["cell", "most"] Ah:=by
 refine F.okN bI (fun vs H Q E h=>?_) (fun cdv A outer s H vs Q E hr h=>?_)
 ·obtain⟨cell,rfl,_⟩:=h
  rfl
 ·obtain⟨cell,rfl,q⟩:=h
  have hs:sizeLine=16777216:=sizeLine_eq;obtain⟨m,hm,hm9⟩:∃ m:Nat,cell % 9=(m:Int)∧m<9:=⟨(cell % 9).toNat,by omega,by omega⟩;obtain⟨k,n,hpr,hk,hn⟩:∃ k n:Nat,([(2,2),(2,3),(2,4),(3,2),(3,3),(4,2),(6,1),(6,2),(5,2)]:List (Int×Int))[m]?=some (((k:Nat):Int),((n:Nat):Int))∧(1<=k∧k<=6)∧(1<=n∧n<=4):=by
   match m,hm9 with
   | 0,_=>exact⟨2,2,rfl,by decide,by decide⟩
   | 1,_=>exact⟨2,3,rfl,by decide,by decide⟩
   | 2,_=>exact⟨2,4,rfl,by decide,by decide⟩
   | 3,_=>exact⟨3,2,rfl,by decide,by decide⟩
   | 4,_=>exact⟨3,3,rfl,by decide,by decide⟩
   | 5,_=>exact⟨4,2,rfl,by decide,by decide⟩
   | 6,_=>exact⟨6,1,rfl,by decide,by decide⟩
   | 7,_=>exact⟨6,2,rfl,by decide,by decide⟩
   | 8,_=>exact⟨5,2,rfl,by decide,by decide⟩
  refine⟨_,(aC (aJ (i:=2) bI.nd rfl (Or.inl rfl) (bT (xM [((_,_,_),(_,_,_),_,_),((_,_,_),(_,_,_),_,_),((_,_,_),(_,_,_),_,_),((_,_,_),(_,_,_),_,_),((_,_,_),(_,_,_),_,_),((_,_,_),(_,_,_),_,_),((_,_,_),(_,_,_),_,_),((_,_,_),(_,_,_),_,_),((_,_,_),(_,_,_),_,_)])))
   (aC (Nl (dC bX (pv 2) (aL cK (pv 0) aG) (fun _ _=>rfl)) (Ad rfl (hX (bG (i:=3) bI.nd rfl (Or.inl rfl)) (hX (bG (i:=4) bI.nd rfl (Or.inl rfl)) uX))))
   (aC (aJ (i:=5) bI.nd rfl (Or.inl rfl) (aL fZ (pv 0) aG))
   (aC (aJ (i:=6) bI.nd rfl (Or.inl rfl) (bT aD))
   (aC (bZ PassesOwn.never rfl (bL (aU C__law_every hr bQ (wK (pv 3) (wK (pv 4) aD)))) (bG (i:=7) bI.nd rfl (Or.inl rfl)) (aC (bU (PW.pt (vH (aO eA (aL cK (pv 5) aG) aG (aY _)) (pH (aO yH (aN aP (by rfl) tt.b_len bc (wK (pv 6) aD)) (pv 1) (aY _))))) (aF (cW (iC bz cq cr cL (pv 6) (wK (pv 7) aD)))) aV)
   (aF (aJ (i:=5) bI.nd rfl (Or.inl rfl) (aL fZ (pv 5) aG)))))
   (aC (bU (aO eA (aN aP (by rfl) tt.b_len bc (wK (pv 6) aD)) aG (aY _)) (aF (aJ (i:=6) bI.nd rfl (Or.inl rfl) (bT (Ru (aL wR (bW [97] (by decide +kernel)) (pv 4)) aD)))) aV)
   (aF (bA (pv 6))))))))),?_⟩
  (try rw[dS]);(try rw[cxK1])
  refine tG _ fun vs9 G9 hvl sG9 hv=>?_
  refine⟨(by rw[hvl];show 9<=sizeLine;omega),fun ps hps=>?_⟩;obtain⟨tp,htp,hT⟩:=hv m _ hpr;have s1:=sG9.trans (aE (o:=.lst vs9) hps);have hTp:=aE (o:=.lst vs9) hps tp _ hT;obtain⟨H1,hH1,s1,hd1⟩:=vC s1;rw[<- hH1] at hTp ⊢;refine⟨_,rfl,_,rfl,_,_,rfl,rfl,(by show (0:Int)<9;decide),ps,_,_,_,rfl,rfl,SqL.of hd1,(by rw[hm];exact cQ htp),tp,_,rfl,SqT.of hTp,rfl,_,_,rfl,_,_,rfl,rfl,?_⟩;refine⟨_,rfl,_,_,rfl,rfl,⟨by decide,by decide⟩,?_⟩;refine⟨(by show 0<=sizeLine;omega),fun D hD=>?_⟩;have s2:=s1.trans (aE (o:=.lst []) hD);refine⟨_,rfl,_,rfl,k,n,rfl,⟨by omega,by omega⟩,fun De es He hDe se hde hwe hel=>⟨De,rfl,⟨_,SqL.of hde⟩,?_⟩⟩;have hDD:De≠D:=fun z=>by rw[z] at hDe;exact absurd (aB.symm.trans hDe) (fun z=>nomatch z)
  have hD0:He D=some (.lst []):=se D _ aB;have hHn:H D=none:=by
   cases e:H D with
   | none=>rfl
   | some o=>exact absurd ((s1 D o e).symm.trans hD) (fun z=>nomatch z)
  refine cD (K:=K) (a:=De) (xs:=es.map T) (fun i σ H3=>aM H H3∧H3 De=some (.lst (es.map T))∧∃ (ls:List (List Nat)) (pt:Int) (v7:Option V),H3 D=some (.lst (ls.map T))∧ls.Sublist (es.take i)∧ls.length<=11∧σ=[some (.int cell),some (.int 11),some (.ref ps),some (.int (k:Nat)),some (.int (n:Nat)),some (.int pt),some (.ref D),v7])
   ⟨s2.trans se,hde,[],cell/9,none,hD0,List.nil_sublist _,by decide,rfl⟩ (fun i σ H3 _ h=>SqL.of h.2.1) ?_ ?_
  ·rintro i y σ H3 hi ⟨s3,hd3,ls,pt,v7,hdl,hsub,hl,rfl⟩
   obtain⟨wd,hwd,rfl⟩:∃ wd,es[i]?=some wd∧y=T wd:=by
    rw[aj] at hi;obtain⟨x,h1,h2⟩:=ba.mp hi;exact⟨x,h1,h2.symm⟩
   have hml:(ls.map T).length=ls.length:=aR ..;have etk:es.take (i+1)=es.take i++[wd]:=by rw[br,hwd];rfl
   refine⟨_,rfl,_,_,rfl,rfl,(by show (0:Int)<2;decide),_,rfl,_,rfl,_,rfl,?_⟩;refine fN (fun h0=>?_) (fun h0=>?_)
   ·refine⟨_,rfl,D,_,rfl,.inl (SqL.of hdl),_,rfl,_,_,rfl,rfl,_,rfl,?_⟩
    rw[hml];refine fN (fun h1=>?_) (fun h1=>?_)
    ·have h40:ls.length<11:=by have:=of_decide_eq_true h1;omega
     refine⟨_,rfl,.inl ⟨rfl,_,SqL.of hdl⟩,_,rfl,D,_,_,rfl,rfl,hdl,(by rw[hml];omega),?_⟩;refine⟨_,rfl,_,_,rfl,rfl,⟨by decide,by decide⟩,?_⟩;refine⟨(fun b o e=>by rw[aH (aK e hHn)];exact s3 b o e),by rw[aH hDD];exact hd3,ls++[wd],pt/2,some (T wd),by rw[ax];exact aB,?_,by rw[ag,da];omega,rfl⟩;rw[etk];exact hsub.append (qr _)
    ·refine⟨_,rfl,_,_,rfl,rfl,⟨by decide,by decide⟩,?_⟩
     exact⟨s3,hd3,ls,pt/2,some (T wd),hdl,by rw[etk];exact hsub.trans (my _ _),hl,rfl⟩
   ·refine⟨_,rfl,_,_,rfl,rfl,⟨by decide,by decide⟩,?_⟩
    exact⟨s3,hd3,ls,pt/2,some (T wd),hdl,by rw[etk];exact hsub.trans (my _ _),hl,rfl⟩
  ·rintro σ H3 ⟨s3,hd3,ls,pt,v7,hdl,hsub,hl,rfl⟩
   rw[aR,bv] at hsub;have hml:(ls.map T).length=ls.length:=aR ..;refine⟨_,rfl,D,_,rfl,.inl (SqL.of hdl),_,rfl,_,rfl,_,rfl,?_⟩;rw[hml];refine fN (fun h2=>?_) (fun h2=>?_)
   ·refine⟨_,rfl,_,rfl,n,rfl,⟨by omega,by show n*1<=sizeLine;omega⟩,(by show 1<=sizeLine;omega),fun p7 hp7=>?_⟩
    exact⟨_,rfl,q p7 [Wd.rep n [97]] n _ (s3.trans (aE hp7)) aB (WL.one (Mm n)) ⟨by omega,by omega⟩ (by simp) (by show 1<=11;decide)⟩
   ·exact⟨_,rfl,q D ls n H3 s3 hdl (hwe.sub hsub) ⟨by omega,by omega⟩ (fun z=>h2 (decide_eq_true (by rw[z];rfl))) hl⟩
theorem Li (d:Int){n:Nat}(h:0<n):∃ m:Nat,d % ((n:Nat):Int)=(m:Int)∧m<n:=by
 have z0:=db d (show ((n:Nat):Int)≠0 by omega);have z1:=ck d (show (0:Int)<((n:Nat):Int) by omega);exact⟨(d % ((n:Nat):Int)).toNat,by omega,by omega⟩
theorem oW {α:Type}(l:List α)(m:Nat):(l.take m++l.drop (m+1)).Sublist l:=by
 have h:(l.take m++l.drop (m+1)).Sublist (l.take m++l.drop m):=(qr _).append (by rw[<- List.drop_drop];exact ml _ _)
 rwa [List.take_append_drop] at h
theorem hV {ls:List (List Nat)}{k:Nat}(h:k<=ls.length):cP (ls.map T) (some (k:Int)) none=(ls.drop k).map T:=by
 unfold cP;rw[HT.eY,HT.eS,aR,eg h,<- jp,<- jq,dm (by rw[bn];omega)]
theorem oY {ls:List (List Nat)}{k:Nat}(h:k<=ls.length):cP (ls.map T) none (some (k:Int))=(ls.take k).map T:=by
 unfold cP;rw[HT.eY,HT.eS,aR,eg h,jb,jh,jq]
def Ak (K:ac):Sp:=fun vs H Q _=>∃ (a:Addr) (ns:List Int),vs=[.ref a,.int 0,.int 11]∧SqL K H a (ns.map V.int)∧∀ (D:Addr) (ls:List (List Nat)) (n:Nat) (H':Hp),aM H H'->H' D=some (.lst (ls.map T))->WL ls n->(1<=n∧n<=5)->ls≠[]->ls.length<=14->Q (.ref D) H'
theorem lW {f:Addr}{fd:FuncData}(F:Fun K "_law_some_words" "_law_some_words" fD f fd)(tt:Txt K mg ad)(C__law_cell_at:Cal P w K mg base (CX1 P w) "_law_cell_at" 1 ["script", "k"] (uF K))(C__law_ring_words:Cal P w K mg base (CX1 P w) "_law_ring_words" 2 ["script", "at", "most"] (yF K))
  (C__law_digit_words:Cal P w K mg base (CX1 P w) "_law_digit_words" 2 ["cell", "most"] Ah):cN P w K mg base (CX1 P w) 3 f fd ["script", "at", "most"] (Ak K):=by
 refine F.okN aQ (fun vs H Q E h=>?_) (fun cdv A outer s H vs Q E hr h=>?_)
 ·obtain⟨a,ns,rfl,_⟩:=h
  rfl
 ·obtain⟨a,ns,rfl,hS,q⟩:=h
  have hs:sizeLine=16777216:=sizeLine_eq;refine⟨_,(aC (aJ (i:=3) aQ.nd rfl (Or.inl rfl) (aU C__law_ring_words hr bQ (aA (pv 0) (aA (pv 1) (aA (pv 2) aD)))))
   (aC (aJ (i:=4) aQ.nd rfl (Or.inl rfl) (aL cK (aL fZ (aU C__law_cell_at hr bQ (aA (pv 0) (aA (pv 1) aD))) aG) aG))
   (aC (bU (aO eA (pv 4) aG (aY _)) (aF (bA (aU C__law_digit_words hr bQ (aA (aU C__law_cell_at hr bQ (aA (pv 0) (aA (aL cU (pv 1) aG) aD))) (aA (pv 2) aD))))) aV)
   (aC (aJ (i:=5) aQ.nd rfl (Or.inl rfl) (aL fZ (aU C__law_cell_at hr bQ (aA (pv 0) (aA (aL cU (pv 1) aG) aD))) aG))
   (aC (bU (PW.pt (vH (aO eA (pv 4) aG (aY _)) (pH (aO kB (aN aP (by rfl) tt.b_len bc (aA (pv 3) aD)) aG (aY _))))) (aF (aJ (i:=3) aQ.nd rfl (Or.inl rfl) (aS cC (pv 3) (aX aG) bD))) aV)
   (aC (bU (aO eA (pv 4) aG (aY _)) (aC (aJ (i:=5) aQ.nd rfl (Or.inl rfl) (aL cK (pv 5) (aL Fb aG aG)))
   (aF (bZ PassesOwn.never rfl (gB (by rfl) tt.b_range (aA (aL cU aG (aL cK (pv 5) aG)) aD)) (bG (i:=6) aQ.nd rfl (Or.inl rfl)) (aC (aJ (i:=7) aQ.nd rfl (Or.inl rfl) (bW [] (by decide +kernel)))
   (aC (bZ PassesOwn.never rfl (gB (by rfl) tt.b_range (aA (aN dY (by rfl) tt.b_len bc (aA (dC bX (pv 3) aG (fun _ _=>rfl)) aD)) aD)) (bG (i:=8) aQ.nd rfl (Or.inl rfl)) (aC (aJ (i:=9) aQ.nd rfl (Or.inl rfl) (aL fZ (aL cU (pv 5) (aL pU (pv 6) (pv 6))) (aL cU (aL cU (aL cU (aL pU (aL pU aG (pv 8)) (pv 8)) (aL pU aG (pv 8))) (aL pU aG (pv 6))) aG)))
   (aF (aJ (i:=7) aQ.nd rfl (Or.inl rfl) (aL hG (pv 7) (dC Sm (bW [97,98,99,100,101,102] (by decide +kernel)) (aL cK (pv 9) aG) (fun _ _=>rfl)))))))
   (aF (bU (aO iX (pv 7) (pv 3) (by with_unfolding_all rfl)) (aF (aJ (i:=3) aQ.nd rfl (Or.inl rfl) (aL cY (pv 3) (bT (aA (pv 7) aD))))) aV))))))) aV)
   (aC (bU (PW.pt (vH (aO eA (pv 4) aG (aY _)) (pH (aO kB (aN aP (by rfl) tt.b_len bc (aA (pv 3) aD)) aG (aY _))))) (aC (aJ (i:=3) aQ.nd rfl (Or.inl rfl) (aL cY (aS cC (pv 3) bD (aX (aL cK (pv 5) (aN aP (by rfl) tt.b_len bc (aA (pv 3) aD))))) (aS cC (pv 3) (aX (aL cU (aL cK (pv 5) (aN aP (by rfl) tt.b_len bc (aA (pv 3) aD))) aG)) bD)))
   (aF (aJ (i:=3) aQ.nd rfl (Or.inl rfl) (aL cY (aS cC (pv 3) bD (aX (aL cK (aL fZ (pv 5) aG) (aN aP (by rfl) tt.b_len bc (aA (pv 3) aD))))) (aS cC (pv 3) (aX (aL cU (aL cK (aL fZ (pv 5) aG) (aN aP (by rfl) tt.b_len bc (aA (pv 3) aD))) aG)) bD))))) aV)
   (aF (bA (pv 3)))))))))),?_⟩
  (try rw[dS]);(try rw[cxK1])
  refine⟨_,rfl,_,rfl,_,rfl,a,ns,rfl,hS,fun p ls n H1 s1 hd hwl hn hne hl=>?_⟩;refine⟨_,rfl,_,rfl,a,ns,0,rfl,s1.seq hS,_,_,rfl,rfl,⟨by decide,by decide⟩,_,_,rfl,rfl,(by show (0:Int)<5;decide),?_⟩
  dsimp only
  generalize ns.getD 0 0/7 % 5=wy;refine⟨_,rfl,_,rfl,_,rfl,_,rfl,?_⟩;refine fN (fun h4=>?_) (fun h4=>?_)
  ·exact⟨_,rfl,_,rfl,_,_,rfl,rfl,a,ns,1,rfl,s1.seq hS,_,rfl,_,rfl,fun D ls2 n2 H2 s2 hd2 hw2 hn2 hne2 hl2=>q D ls2 n2 H2 (s1.trans s2) hd2 hw2 hn2 hne2 (by omega)⟩
  refine⟨_,rfl,_,rfl,_,_,rfl,rfl,a,ns,1,rfl,s1.seq hS,_,_,rfl,rfl,⟨by decide,by decide⟩,?_⟩
  dsimp only
  generalize ns.getD 1 0/8=dr;refine⟨_,rfl,_,rfl,_,rfl,_,rfl,?_⟩;refine fN (fun h1=>?a) (fun h1=>?b)
  case' a =>
   refine⟨_,rfl,p,_,rfl,.inl (SqL.of hd),_,_,rfl,rfl,_,rfl,?_⟩;rw[aR];refine fN (fun h2=>?a1) (fun h2=>?a2)
  case' a1 =>
   have h2':1<ls.length:=by have:=of_decide_eq_true h2;omega
   refine⟨_,rfl,_,rfl,p,_,rfl,SqL.of hd,fun p3 hp3=>?_⟩;rw[show cP (ls.map T) (some 1) none=(ls.drop 1).map T from hV (k:=1) (by omega)];obtain⟨H3,hH3,s3,hd3⟩:=vC (s1.trans (aE (o:=.lst ((ls.drop 1).map T)) hp3));rw[<- hH3];obtain⟨ls3,hd3,hw3,hne3,hl3⟩:∃ ls3:List (List Nat),H3 p3=some (.lst (ls3.map T))∧WL ls3 n∧ls3≠[]∧ls3.length<=11:=⟨ls.drop 1,hd3,hwl.sub (ml _ _),(fun z=>by have:=congrArg ge z;rw[bn] at this;simp at this;omega),by rw[bn];omega⟩
  case' a2 =>
   obtain⟨H3,hH3,s3⟩:=Fp s1;rw[<- hH3];obtain⟨p3,hp3,ls3,hd3,hw3,hne3,hl3⟩:∃ p3,p3=p∧∃ ls3:List (List Nat),H3 p3=some (.lst (ls3.map T))∧WL ls3 n∧ls3≠[]∧ls3.length<=11:=⟨p,rfl,ls,by rw[hH3];exact hd,hwl,hne,hl⟩;rw[<- hp3]
  case' b =>
   obtain⟨H3,hH3,s3⟩:=Fp s1;rw[<- hH3];obtain⟨p3,hp3,ls3,hd3,hw3,hne3,hl3⟩:∃ p3,p3=p∧∃ ls3:List (List Nat),H3 p3=some (.lst (ls3.map T))∧WL ls3 n∧ls3≠[]∧ls3.length<=11:=⟨p,rfl,ls,by rw[hH3];exact hd,hwl,hne,hl⟩;rw[<- hp3]
  all_goals
   refine⟨_,rfl,_,rfl,_,rfl,_,rfl,?_⟩;refine fN (fun h5=>?_) (fun h5=>?_)
   rotate_left
   ·have h40:=hl3
    refine⟨_,rfl,_,rfl,_,rfl,_,rfl,?_⟩;refine fN (fun h7=>?_) (fun h7=>?_)
    ·refine⟨_,rfl,p3,_,rfl,.inl (SqL.of hd3),_,_,rfl,rfl,_,rfl,?_⟩
     rw[aR];refine fN (fun h8=>?_) (fun h8=>?_)
     ·have h2:2<ls3.length:=by have:=of_decide_eq_true h8;omega
      obtain⟨m,hm,hml⟩:=Li (dr) (show 0<(ls3.map T).length by rw[aR];omega);rw[aR] at hml;have c1:cP (ls3.map T) none (some (dr % (((ls3.map T).length:Nat):Int)))=(ls3.take m).map T:=by rw[hm];exact oY (by omega)
      have c2:cP (ls3.map T) (some (dr % (((ls3.map T).length:Nat):Int)+1)) none=(ls3.drop (m+1)).map T:=by rw[hm];exact hV (k:=m+1) (by omega)
      refine⟨_,rfl,_,rfl,_,rfl,p3,_,rfl,.inl (SqL.of hd3),_,_,rfl,rfl,(by show (0:Int)<(((ls3.map T).length:Nat):Int);rw[aR];omega),_,rfl,p3,_,rfl,SqL.of hd3,fun q1 hq1=>?_⟩;rw[c1];have t1:=aE (o:=.lst ((ls3.take m).map T)) hq1;refine⟨_,rfl,_,rfl,_,rfl,p3,_,rfl,.inl (SqL.of (t1 p3 _ hd3)),_,_,rfl,rfl,(by show (0:Int)<(((ls3.map T).length:Nat):Int);rw[aR];omega),_,_,rfl,rfl,_,rfl,p3,_,rfl,SqL.of (t1 p3 _ hd3),fun q2 hq2=>?_⟩;rw[c2];have t2:=aE (o:=.lst ((ls3.drop (m+1)).map T)) hq2;refine⟨q1,q2,_,_,rfl,rfl,SqL.of (t2 q1 _ aB),SqL.of aB,(by rw[aR,aR,a8,bn];omega),fun q3 hq3=>?_⟩;have t3:=t1.trans (t2.trans (aE (o:=.lst ((ls3.take m).map T++(ls3.drop (m+1)).map T)) hq3));obtain⟨H8,hH8,t3,hd8⟩:=vC t3;rw[<- hH8];obtain⟨ms,hms,hsub,hmsl⟩:∃ ms:List (List Nat),(ls3.take m).map T++(ls3.drop (m+1)).map T=ms.map T∧ms.Sublist ls3∧ms.length=ls3.length-1:=⟨ls3.take m++ls3.drop (m+1),by rw[ax],oW _ _,by rw[ag,a8,bn];omega⟩;rw[hms] at hd8;obtain⟨m',hm',hml'⟩:=Li (dr/7) (show 0<(ms.map T).length by rw[aR];omega);rw[aR] at hml';have c3:cP (ms.map T) none (some (dr/7 % (((ms.map T).length:Nat):Int)))=(ms.take m').map T:=by rw[hm'];exact oY (by omega)
      have c4:cP (ms.map T) (some (dr/7 % (((ms.map T).length:Nat):Int)+1)) none=(ms.drop (m'+1)).map T:=by rw[hm'];exact hV (k:=m'+1) (by omega)
      refine⟨_,rfl,_,rfl,_,_,rfl,rfl,⟨by decide,by decide⟩,_,rfl,q3,_,rfl,.inl (SqL.of hd8),_,_,rfl,rfl,(by show (0:Int)<(((ms.map T).length:Nat):Int);rw[aR];omega),_,rfl,q3,_,rfl,SqL.of hd8,fun q4 hq4=>?_⟩;rw[c3];have t4:=aE (o:=.lst ((ms.take m').map T)) hq4;refine⟨_,rfl,_,rfl,_,_,rfl,rfl,⟨by decide,by decide⟩,_,rfl,q3,_,rfl,.inl (SqL.of (t4 q3 _ hd8)),_,_,rfl,rfl,(by show (0:Int)<(((ms.map T).length:Nat):Int);rw[aR];omega),_,_,rfl,rfl,_,rfl,q3,_,rfl,SqL.of (t4 q3 _ hd8),fun q5 hq5=>?_⟩;rw[c4];have t5:=aE (o:=.lst ((ms.drop (m'+1)).map T)) hq5;refine⟨q4,q5,_,_,rfl,rfl,SqL.of (t5 q4 _ aB),SqL.of aB,(by rw[aR,aR,a8,bn];omega),fun q6 hq6=>?_⟩;have t6:=t4.trans (t5.trans (aE (o:=.lst ((ms.take m').map T++(ms.drop (m'+1)).map T)) hq6));have hl9:(ms.take m'++ms.drop (m'+1)).length=ms.length-1:=by rw[ag,a8,bn];omega
      exact⟨_,rfl,q q6 (ms.take m'++ms.drop (m'+1)) n _ ((s3).trans (t3.trans t6)) (by rw[ax];exact aB) ((hw3).sub ((oW _ _).trans hsub)) hn (fun z=>by rw[z] at hl9;simp at hl9;omega) (by omega)⟩
     ·exact⟨_,rfl,q p3 ls3 n _ s3 hd3 hw3 hn hne3 (by omega)⟩
    ·exact⟨_,rfl,q p3 ls3 n _ s3 hd3 hw3 hn hne3 (by omega)⟩
   refine⟨_,rfl,_,_,rfl,rfl,⟨by decide,by decide,by decide⟩,_,_,rfl,rfl,(by show (0:Int)<10 ^ 9;decide),?_⟩
   dsimp only
   generalize dr % 10 ^ Int.toNat 9=d2;refine⟨_,rfl,_,_,rfl,rfl,(by show (0:Int)<3;decide),_,_,rfl,rfl,_,rfl,by omega,by omega,?_⟩;obtain⟨N,hN,hN3⟩:∃ N:Nat,1+d2 % 3=(N:Int)∧N<=3:=⟨(1+d2 % 3).toNat,by omega,by omega⟩;rw[hN,bt];refine gA (fun i σ Hk=>aM H Hk∧∃ (pk:Addr) (lk:List (List Nat)) (v6 v7 v8 v9:Option V),Hk pk=some (.lst (lk.map T))∧WL lk n∧lk≠[]∧lk.length<=11+i∧σ=[some (.ref a),some (.int 0),some (.int 11),some (.ref pk),some (.int wy),some (.int d2),v6,v7,v8,v9])
    ⟨s3,p3,ls3,none,none,none,none,hd3,hw3,hne3,by omega,rfl⟩ ?_ ?_
   ·rintro i σ Hk hi ⟨sk,pk,lk,v6,v7,v8,v9,hdk,hwk,hnek,hlk,rfl⟩
    obtain⟨m0,hm0⟩:∃ m0,lk[0]?=some m0:=⟨_,aa (gn.mpr hnek)⟩;have hm0l:=(hwk.1 m0 (az hm0)).1;refine⟨_,rfl,pk,_,_,_,rfl,rfl,SqL.of hdk,cQ (j:=0) (by rw[aj,hm0];rfl),_,rfl,(by omega),_,rfl,by omega,by omega,?_⟩;rw[hm0l,bt];refine gA (fun j σ Hj=>Hk=Hj∧∃ (t:List Nat) (v8 v9:Option V),t.length=j∧Abc t∧σ=[some (.ref a),some (.int 0),some (.int 11),some (.ref pk),some (.int wy),some (.int d2),some (.int (0+(i:Int))),some (T t),v8,v9])
     ⟨rfl,[],v8,v9,rfl,(fun c hc=>by simp at hc),rfl⟩ ?_ ?_
    ·rintro j σ Hj hj ⟨rfl,t,v8,v9,ht,hab,rfl⟩
     obtain⟨sq,hsq,sq0,sq1⟩:∃ sq:Int,3*(0+(j:Int))*(0+(j:Int))=sq∧0<=sq∧sq<=75:=by
      rcases (show j=0∨j=1∨j=2∨j=3∨j=4 by omega) with rfl | rfl | rfl | rfl | rfl <;> exact⟨_,rfl,by decide,by decide⟩
     refine⟨_,rfl,_,rfl,_,rfl,_,_,rfl,rfl,.inl ⟨by omega,by omega⟩,_,_,rfl,rfl,_,rfl,_,_,rfl,rfl,.inl ⟨by decide,by decide⟩,_,rfl,_,_,rfl,rfl,.inl ⟨by omega,by omega⟩,_,rfl,_,_,rfl,rfl,.inl ⟨by decide,by decide⟩,_,_,rfl,rfl,_,rfl,_,_,rfl,rfl,.inl ⟨by decide,by decide⟩,_,_,rfl,rfl,_,_,rfl,rfl,_,_,rfl,rfl,
      ⟨(by show (0:Int)<3*(0+(j:Int))*(0+(j:Int))+5*(0+(j:Int))+7*(0+(i:Int))+1;rw[hsq];omega),(by show 3*(0+(j:Int))*(0+(j:Int))+5*(0+(j:Int))+7*(0+(i:Int))+1<(1073741824:Int);rw[hsq];omega)⟩,?_⟩
     dsimp only
     generalize (d2+(0+(i:Int))*(0+(i:Int)))/(3*(0+(j:Int))*(0+(j:Int))+5*(0+(j:Int))+7*(0+(i:Int))+1)=pt;obtain⟨c,hc,c0,c1⟩:=Fu (db pt (show (6:Int)≠0 by decide)) (ck pt (show (0:Int)<6 by decide));refine⟨_,rfl,_,rfl,_,_,rfl,rfl,(by show (0:Int)<6;decide),_,rfl,_,rfl,(by show 6<=sizeLine;omega),c,hc,_,rfl,_,rfl,(by show t.length+1<=sizeLine;omega),?_⟩;refine⟨rfl,t++[c],some (.int (0+(j:Int))),some (.int pt),by rw[ag,ht];rfl,fun e he=>?_,rfl⟩;rcases a6.mp he with g | g
     ·exact hab e g
     ·have e':e=c:=by simpa using g
      subst e';exact⟨c0,c1⟩
    ·rintro σ Hj ⟨rfl,t,v8,v9,ht,hab,rfl⟩
     refine⟨_,rfl,_,rfl,pk,_,rfl,.inl (SqL.of hdk),rfl,iI lk,_,rfl,?_⟩;refine fN (fun h0=>?_) (fun h0=>?_)
     ·have hni:¬ t∈lk:=fun z=>by
       have h1:(!inV (T t) (lk.map T))=true:=h0;rw[tY,decide_eq_true z] at h1;cases h1
      refine⟨_,rfl,_,rfl,(by show 1<=sizeLine;omega),fun q1 hq1=>?_⟩;have t1:=aE (o:=.lst [T t]) hq1;refine⟨pk,q1,_,_,rfl,rfl,SqL.of (t1 pk _ hdk),SqL.of aB,(by rw[aR];show _+1<=sizeLine;omega),fun q2 hq2=>?_⟩;exact⟨sk.trans (t1.trans (aE hq2)),q2,lk++[t],some (.int (0+(i:Int))),some (T t),v8,v9,by rw[ax];exact aB,hwk.snoc ⟨ht,hab⟩ hni,by simp,by rw[ag,da];omega,rfl⟩
     ·exact⟨sk,pk,lk,some (.int (0+(i:Int))),some (T t),v8,v9,hdk,hwk,hnek,by omega,rfl⟩
   ·rintro σ Hk ⟨sk,pk,lk,v6,v7,v8,v9,hdk,hwk,hnek,hlk,rfl⟩
    refine⟨_,rfl,_,rfl,_,rfl,_,rfl,?_⟩;refine fN (fun h7=>?_) (fun h7=>?_)
    ·refine⟨_,rfl,pk,_,rfl,.inl (SqL.of hdk),_,_,rfl,rfl,_,rfl,?_⟩
     rw[aR];refine fN (fun h8=>?_) (fun h8=>?_)
     ·have h2:2<lk.length:=by have:=of_decide_eq_true h8;omega
      obtain⟨m,hm,hml⟩:=Li (d2) (show 0<(lk.map T).length by rw[aR];omega);rw[aR] at hml;have c1:cP (lk.map T) none (some (d2 % (((lk.map T).length:Nat):Int)))=(lk.take m).map T:=by rw[hm];exact oY (by omega)
      have c2:cP (lk.map T) (some (d2 % (((lk.map T).length:Nat):Int)+1)) none=(lk.drop (m+1)).map T:=by rw[hm];exact hV (k:=m+1) (by omega)
      refine⟨_,rfl,_,rfl,_,rfl,pk,_,rfl,.inl (SqL.of hdk),_,_,rfl,rfl,(by show (0:Int)<(((lk.map T).length:Nat):Int);rw[aR];omega),_,rfl,pk,_,rfl,SqL.of hdk,fun q1 hq1=>?_⟩;rw[c1];have t1:=aE (o:=.lst ((lk.take m).map T)) hq1;refine⟨_,rfl,_,rfl,_,rfl,pk,_,rfl,.inl (SqL.of (t1 pk _ hdk)),_,_,rfl,rfl,(by show (0:Int)<(((lk.map T).length:Nat):Int);rw[aR];omega),_,_,rfl,rfl,_,rfl,pk,_,rfl,SqL.of (t1 pk _ hdk),fun q2 hq2=>?_⟩;rw[c2];have t2:=aE (o:=.lst ((lk.drop (m+1)).map T)) hq2;refine⟨q1,q2,_,_,rfl,rfl,SqL.of (t2 q1 _ aB),SqL.of aB,(by rw[aR,aR,a8,bn];omega),fun q3 hq3=>?_⟩;have t3:=t1.trans (t2.trans (aE (o:=.lst ((lk.take m).map T++(lk.drop (m+1)).map T)) hq3));obtain⟨H8,hH8,t3,hd8⟩:=vC t3;rw[<- hH8];obtain⟨ms,hms,hsub,hmsl⟩:∃ ms:List (List Nat),(lk.take m).map T++(lk.drop (m+1)).map T=ms.map T∧ms.Sublist lk∧ms.length=lk.length-1:=⟨lk.take m++lk.drop (m+1),by rw[ax],oW _ _,by rw[ag,a8,bn];omega⟩;rw[hms] at hd8;obtain⟨m',hm',hml'⟩:=Li (d2/7) (show 0<(ms.map T).length by rw[aR];omega);rw[aR] at hml';have c3:cP (ms.map T) none (some (d2/7 % (((ms.map T).length:Nat):Int)))=(ms.take m').map T:=by rw[hm'];exact oY (by omega)
      have c4:cP (ms.map T) (some (d2/7 % (((ms.map T).length:Nat):Int)+1)) none=(ms.drop (m'+1)).map T:=by rw[hm'];exact hV (k:=m'+1) (by omega)
      refine⟨_,rfl,_,rfl,_,_,rfl,rfl,⟨by decide,by decide⟩,_,rfl,q3,_,rfl,.inl (SqL.of hd8),_,_,rfl,rfl,(by show (0:Int)<(((ms.map T).length:Nat):Int);rw[aR];omega),_,rfl,q3,_,rfl,SqL.of hd8,fun q4 hq4=>?_⟩;rw[c3];have t4:=aE (o:=.lst ((ms.take m').map T)) hq4;refine⟨_,rfl,_,rfl,_,_,rfl,rfl,⟨by decide,by decide⟩,_,rfl,q3,_,rfl,.inl (SqL.of (t4 q3 _ hd8)),_,_,rfl,rfl,(by show (0:Int)<(((ms.map T).length:Nat):Int);rw[aR];omega),_,_,rfl,rfl,_,rfl,q3,_,rfl,SqL.of (t4 q3 _ hd8),fun q5 hq5=>?_⟩;rw[c4];have t5:=aE (o:=.lst ((ms.drop (m'+1)).map T)) hq5;refine⟨q4,q5,_,_,rfl,rfl,SqL.of (t5 q4 _ aB),SqL.of aB,(by rw[aR,aR,a8,bn];omega),fun q6 hq6=>?_⟩;have t6:=t4.trans (t5.trans (aE (o:=.lst ((ms.take m').map T++(ms.drop (m'+1)).map T)) hq6));have hl9:(ms.take m'++ms.drop (m'+1)).length=ms.length-1:=by rw[ag,a8,bn];omega
      exact⟨_,rfl,q q6 (ms.take m'++ms.drop (m'+1)) n _ ((sk).trans (t3.trans t6)) (by rw[ax];exact aB) ((hwk).sub ((oW _ _).trans hsub)) hn (fun z=>by rw[z] at hl9;simp at hl9;omega) (by omega)⟩
     ·exact⟨_,rfl,q pk lk n _ sk hdk hwk hn hnek (by omega)⟩
    ·exact⟨_,rfl,q pk lk n _ sk hdk hwk hn hnek (by omega)⟩
def lR (ms:List (List Nat))(p:List Nat)(ts:List (List Nat)):Prop:=ts.Pairwise (· < ·)∧∀ z,z∈ts↔IsP ms z∧z≠p
theorem lR.nd {ms ts:List (List Nat)}{p:List Nat}(h:lR ms p ts):ts.Nodup:=h.1.imp fun z e=>absurd (e▸z) (fo _)
theorem lR.no {ms ts:List (List Nat)}{p:List Nat}(h:lR ms p ts):p∉ts:=fun z=>((h.2 p).mp z).2 rfl
theorem lR.uniq {ms ts us:List (List Nat)}{p:List Nat}(h:lR ms p ts)(g:lR ms p us):us=ts:=by
 have ns:∀ {l:List (List Nat)},l.Pairwise (· < ·)->l.Pairwise fun a b=>¬ b<a:=fun h=>h.imp fun z e=>fo _ (jm z e)
 exact Wd.jX ((jd g.nd h.nd).mpr fun z=>by rw[h.2,g.2]) (ns g.1) (ns h.1)
theorem lR.len60 {ms ts:List (List Nat)}{p:List Nat}(h:lR ms p ts)(hl:ms.length<=30):ts.length<=60:=by
 have h1:=Dt.kO (b:=ms.map beg++ms.map fun w=>w.drop 1) h.nd fun z hz=>by
  obtain⟨w,hw,e | e⟩:=((h.2 z).mp hz).1
  ·exact cn _ (e▸cy hw)
  ·exact av _ (e▸cy hw)
 rw[ag,aR,aR] at h1;omega
theorem Mq {ms ps:List (List Nat)}{p:List Nat}(hpw:ps.Pairwise (fun a b=>¬ b<a))(hpn:ps.Nodup)(hpm:∀ z,z∈ps↔IsP ms z):lR ms p (ps.filter fun o=>decide (o≠p)):=⟨(Dt.zF hpn hpw).filter _,fun z=>by rw[cf,hpm,decide_eq_true_iff]⟩
theorem kM {ms:List (List Nat)}{t w:List Nat}(h:w∈dF ms t):w∈ms∧Wd.beg w=t:=⟨(cf.mp h).1,of_decide_eq_true (cf.mp h).2⟩
theorem Lj {ms:List (List Nat)}{t w:List Nat}(h:w∈ms)(e:Wd.beg w=t):w∈dF ms t:=cf.mpr ⟨h,decide_eq_true e⟩
theorem oX {ms ts us:List (List Nat)}(hn:ts.Nodup):us∈Dt.trs ts ts (dF ms)↔us.map Wd.beg=ts∧(∀ w∈us,w∈ms)∧Dt.cmT ts (Dt.pk us)=true:=by
 rw[Dt.An hn fun t _ w hw=>(kM hw).2];refine and_congr_right fun h1=>?_
 rw[Dt.eO (f':=Dt.pk us) fun t ht=>if_pos ht];exact and_congr_left fun _=>⟨fun h w hw=>(kM (h w hw)).1,fun h w hw=>Lj (h w hw) rfl⟩
def mE (K:ac)(C:Addr)(ad:Adr):Sp:=fun vs H Q E=>∃ (x tp:Addr) (n:Nat) (ms:List (List Nat)) (p:List Nat) (a:Addr) (us:List (List Nat)),vs=[.ref x,T p,.ref a]∧jO C H x tp n ms∧gT ms n∧SqA K H a (us.map T)∧(us.length<=1000∧∀ y∈us,1<=y.length∧y.length<=1000)∧(¬ IsP ms p->∀ H',aM H H'->E (.ref ad.NoSuch) none H') ∧
 (IsP ms p->∀ (ts:List (List Nat)) (b:Bool) (H':Hp),lR ms p ts->aM H H'->(b=true↔us∈Dt.trs ts ts (dF ms))->Q (.bl b) H')
theorem zN {f:Addr}{fd:FuncData}(F:Fun K "is_tree" "is_tree" iH f fd)(tt:Txt K mg ad)(C_ways_toward:Cal P w K mg base (CX1 P w) "ways_toward" 3 ["web", "piece"] (vE ad.Web ad))(C_begin_of:Cal P w K mg base (CX1 P w) "begin_of" 1 ["word"] kK)(C_coming_to:Cal P w K mg base (CX1 P w) "coming_to" 2 ["words", "piece"] (zW K)) :
  cN P w K mg base (CX1 P w) 4 f fd ["web", "piece", "tree"] (mE K ad.Web ad):=by
 refine F.okX lL (fun vs H Q E h=>?_) (fun cdv A outer s H vs Q E hr h=>?_)
 ·obtain⟨x,tp,n,ms,p,a,us,rfl,_⟩:=h
  rfl
 ·obtain⟨x,tp,n,ms,p,a,us,rfl,hW,hok,hS,⟨hul,hux⟩,xn,q⟩:=h
  have hs:sizeLine=16777216:=sizeLine_eq;have hu:=j7 (eC hr);obtain⟨⟨dx,hx⟩,htp⟩:=id hW;refine⟨_,(aC (aJ (i:=3) lL.nd rfl (Or.inl rfl) (aU C_ways_toward hr oB (aA (pv 0) (aA (pv 1) aD))))
   (aC (bU (aO (xS hu) (dU vS rfl (vJ K rfl (pv 2)) (fun cl C s' H' fp=>(aU C_begin_of hr bQ (aA (pv 0) aD)))) (dH (lQ rfl) (by rfl) tt.b_list (by decide +kernel) (aA (pv 3) aD)) (aY _)) (aF (bA fK)) aV)
   (aC (aJ (i:=4) lL.nd rfl (Or.inl rfl) (aN (Ee rfl) (by rfl) tt.b_all PyProof.Rows.boot_all (aA (dU uR rfl (vJ K rfl (pv 2)) (fun cl C s' H' fp=>(pC (Af K rfl) (pv 0) (Ly K rfl (pv 1) rfl) (by with_unfolding_all rfl)))) aD)))
   (aF (bA (Py (pv 4) (Om (pC eA (aN kQ (by rfl) tt.b_len bc (aA (aU C_coming_to hr bQ (aA (pv 2) (aA (pv 1) aD))) aD)) (aL cU (aN kQ (by rfl) tt.b_len bc (aA (pv 3) aD)) aG) (aY _))))))))),?_⟩
  (try rw[dS]);(try rw[cxK1])
  refine⟨_,rfl,_,rfl,x,tp,n,ms,p,rfl,hW,hok,xn,fun hip D ps kvs H1 hD s1 hd1 hwa hps62 hpw hpn hpm=>?_⟩;have hts:=Mq (p:=p) hpw hpn hpm;have htl:(ps.filter fun o=>decide (o≠p)).length<=62:=a7 (b8 ..) hps62;generalize (ps.filter fun o=>decide (o≠p))=ts at hwa hts htl;refine⟨_,rfl,a,us.map T,_,rfl,hS.on s1,aM.refl _,fun J rd=>?_⟩;refine jC (fun v=>T (beg (unT v))) rd (by rw[aR];omega) (fun v G hv sg N hN=>?_) fun D2 H2 hD2 s2 hd2=>?_
  ·obtain⟨l,hl,rfl⟩:=ar.mp hv
   have z:=hN G (aM.refl _);rw[dP] at z;exact⟨_,rfl,l,rfl,hux l hl,z⟩
  rw[fU (f:=fun l=>T (beg l)),show us.map (fun l=>T (beg l))=(us.map beg).map T by rw[bf];rfl] at hd2;refine⟨_,rfl,D,ts,kvs,rfl,s2 D _ hd1,hwa.keys,fun D3 hD3=>?_⟩;have t3:=aE (o:=.lst (ts.map T)) hD3;refine⟨D2,D3,us.map beg,ts,rfl,rfl,SqL.of (t3 D2 _ hd2),SqL.of aB,_,rfl,?_⟩;have s13:=s1.trans (s2.trans t3);by_cases hb:us.map beg=ts
  case neg =>
   refine itP (by rw[decide_eq_false hb];rfl) ?_;refine q hip ts false _ hts s13 ⟨fun z=>(by cases z),fun z=>absurd ((oX hts.nd).mp z).1 hb⟩
  refine itN (by rw[decide_eq_true hb];exact ak) ?_;have hd4:=t3 D _ (s2 D _ hd1);generalize upd H2 D3 (.lst (ts.map T))=H4 at s13 hd4;refine⟨_,rfl,a,us.map T,_,rfl,hS.on s13,aM.refl _,fun J rd=>?_⟩;refine jC (fun v=>V.bl (decide (unT v∈ms))) rd (by rw[aR];omega) (fun v G hv sg N hN=>?_) fun D5 H5 hD5 s5 hd5=>?_
  ·obtain⟨l,hl,rfl⟩:=ar.mp hv
   have z:=hN G (aM.refl _);rw[dP,<- tY] at z;have s1G:=s13.trans sg;exact⟨_,rfl,_,rfl,x,ad.Web,dx,_,_,rfl,s1G x _ hx,tt.cl_Web,tt.na_Web_words,qN _ _,tp,_,rfl,.inr (SqT.of (s1G tp _ htp)),rfl,iI _,z⟩
  have hd5:H5 D5=some (.lst ((us.map fun w=>decide (w∈ms)).map V.bl)):=by
   rw[hd5,bf,bf];refine congrArg (fun l=>some (HO.lst l)) (bb fun m _=>?_);show V.bl (decide (unT (T m)∈ms))=_;rw[dP];rfl
  have s15:=s13.trans s5;refine⟨D5,_,rfl,SqL.of hd5,?_⟩;refine⟨_,rfl,_,rfl,?_⟩;by_cases hkn:∀ w∈us,w∈ms
  case neg =>
   refine itN (fun z=>hkn fun w hw=>?_) ?_
   ·rw[qp] at z
    exact of_decide_eq_true (dh.mp z w hw)
   ·exact q hip ts false _ hts s15 ⟨fun z=>(by cases z),fun z=>absurd ((oX hts.nd).mp z).2.1 hkn⟩
  refine itP (by rw[qp];exact dh.mpr fun w hw=>decide_eq_true (hkn w hw)) ?_;refine⟨_,rfl,_,rfl,a,us,p,rfl,hS.on s15,⟨hul,hux⟩,fun D6 fs H6 hD6 s6 hd6 hfn hpf hcl hle=>?_⟩;refine⟨D6,_,rfl,hd6,?_⟩;refine⟨_,rfl,D,_,rfl,s6 D _ (s5 D _ hd4),_,_,rfl,rfl,_,rfl,_,rfl,?_⟩;have hlen:=hwa.len;have hfin:∀ w∈us,Wd.fin w=p∨Wd.fin w∈ts:=fun w hw=>by
   by_cases e:Wd.fin w=p
   ·exact .inl e
   ·exact .inr ((hts.2 _).mpr ⟨⟨w,hkn w hw,.inr rfl⟩,e⟩)
  have key:=Dt.Ij (us:=us) (ks:=fs) hts.nd hts.no hb hfin hfn hpf hcl hle;rw[vN,hlen];refine q hip ts _ _ hts (s15.trans s6) ?_;rw[oX hts.nd,decide_eq_true_iff];constructor
  ·intro h
   exact⟨hb,hkn,key.mp (by omega)⟩
  ·intro h
   have:=key.mpr h.2.2
   omega
theorem Ky {ms:List (List Nat)}(hn:ms.Nodup)(hs:ms.Pairwise fun a b=>¬ b<a)(t:List Nat):(dF ms t).Pairwise (· < ·):=(Dt.zF hn hs).filter _
theorem uL {ts:List (List Nat)}{g:List Nat->List (List Nat)}:Dt.Fix ts ts g:=fun t h z=>absurd h z
def GOk (ms ts:List (List Nat))(g:List Nat->List (List Nat)):Prop:=∀ o∈ts,(g o).length<=64∧∀ y∈g o,y∈ms
theorem GOk.out {ms ts:List (List Nat)}(h:ms.length<=63):GOk ms ts (dF ms):=fun o _=>⟨a7 (b8 ..) (by omega),fun y hy=>(kM hy).1⟩
theorem xL {α β:Type}{R S:α->β->Prop}{as:List α}{bs:List β}(h:Dt.R2 R as bs)(f:∀ a b,R a b->S a b):Dt.R2 S as bs:=h.mono fun a b _=>f a b
def rW (ts:List (List Nat))(p:List Nat)(us:List (List Nat)):Prop:=∀ w∈us,(Wd.beg w=p∨Wd.beg w∈ts)∧1<=w.length∧w.length<=1000
theorem rW.app {ts us vs:List (List Nat)}{p:List Nat}(h:rW ts p us)(g:rW ts p vs):rW ts p (us++vs):=fun w hw=>(a6.mp hw).elim (h w) (g w)
def As (K:ac):Sp:=fun vs H Q _=>∃ (L B C:Addr) (bs:List Addr) (pre:List (List (List Nat))) (ws lt ts:List (List Nat)) (p:List Nat),vs=[.ref L,.ref B,.ref C,T p,.int ((ts.length+1:Nat):Int)]∧SqL K H L (bs.map V.ref)∧Dt.R2 (fun us b=>H b=some (.lst (us.map T))) pre bs∧SqL K H B (ws.map T)∧SqL K H C (lt.map T) ∧
 (pre.length*ws.length<=10000000∧lt.length<=100∧∀ us∈pre,us.length<=100∧rW ts p us)∧rW ts p ws∧rW ts p lt∧ts.Nodup∧p∉ts ∧
 ∀ (D:Addr) (bs':List Addr) (H':Hp),H D=none->aM H H'->H' D=some (.lst (bs'.map V.ref))->Dt.R2 (fun us b=>H b=none∧H' b=some (.lst (us.map T))) (Dt.grL ts p pre ws lt) bs'->Q (.ref D) H'
open Classical in
theorem Jv {f:Addr}{fd:FuncData}(F:Fun K "grown" "grown" wC f fd)(tt:Txt K mg ad)(C_coming_to:Cal P w K mg base (CX1 P w) "coming_to" 2 ["words", "piece"] (zW K)):cN P w K mg base (CX1 P w) 3 f fd ["begun", "words", "later", "piece", "size"] (As K):=by
 refine F.okN kA (fun vs H Q E h=>?_) (fun cdv A outer s H vs Q E hr h=>?_)
 ·obtain⟨L,B,C,bs,pre,ws,lt,ts,p,rfl,_⟩:=h
  rfl
 ·obtain⟨L,B,C,bs,pre,ws,lt,ts,p,rfl,hL,hR,hB,hC,⟨hsz,hltl,hpre⟩,hws,hlt,htn,hp,q⟩:=h
  have hs:sizeLine=16777216:=sizeLine_eq;have hbl:=hR.len;refine⟨_,(aC (aJ (i:=5) kA.nd rfl (Or.inl rfl) (bT aD))
   (aC (bZ PassesOwn.never rfl (bL (pv 0)) (bG (i:=6) kA.nd rfl (Or.inl rfl)) (aF (bZ PassesOwn.never rfl (bL (pv 1)) (bG (i:=7) kA.nd rfl (Or.inl rfl)) (aC (aJ (i:=8) kA.nd rfl (Or.inl rfl) (aL cY (pv 6) (bT (aA (pv 7) aD))))
   (aF (bU (aO eA (aN kQ (by rfl) tt.b_len bc (aA (aU C_coming_to hr bQ (aA (aL cY (pv 8) (pv 2)) (aA (pv 3) aD))) aD)) (pv 4) (aY _)) (aF (cW (iC bz cq cr cL (pv 5) (aA (pv 8) aD)))) aV))))))
   (aF (bA (pv 5))))),?_⟩
  (try rw[dS]);(try rw[cxK1])
  refine⟨(by show 0<=sizeLine;omega),fun D hD=>?_⟩;have sD:=aE (o:=.lst []) hD;refine⟨_,rfl,L,rfl,⟨_,sD.seq hL⟩,?_⟩;have hone:∀ us:List (List Nat),((ws.filter fun w=>decide (Dt.okP ts p (us++[w]++lt))).map fun w=>us++[w]).length<=ws.length:=fun us=>by rw[aR];exact b8 ..
  have hgl:∀ l:List (List (List Nat)),(Dt.grL ts p l ws lt).length<=l.length*ws.length:=fun l=>by
   induction l with
   | nil=>simp[Dt.grL]
   | cons x l ih =>
    unfold Dt.grL at ih ⊢;rw[ca,ag,aw,gt,gf];exact a7 (r8 (hone x) ih) (lm (iw _ _))
  refine cD (K:=K) (a:=L) (xs:=bs.map V.ref) (fun i σ G=>aM H G∧∃ (bs2:List Addr) (v6 v7 v8:Option V),G D=some (.lst (bs2.map V.ref))∧Dt.R2 (fun us b=>(b≠D∧H b=none)∧G b=some (.lst (us.map T))) (Dt.grL ts p (pre.take i) ws lt) bs2∧σ=[some (.ref L),some (.ref B),some (.ref C),some (T p),some (.int ((ts.length+1:Nat):Int)),some (.ref D),v6,v7,v8])
   ⟨sD,[],none,none,none,aB,by rw[gh];exact .nil,rfl⟩ (fun i σ G _ h=>h.1.seq hL) ?_ ?_
  ·rintro i y σ G hi ⟨sG,bs2,v6,v7,v8,hdG,hR2,rfl⟩
   obtain⟨b,hbi,rfl⟩:∃ b,bs[i]?=some b∧V.ref b=y:=by rw[aj] at hi;exact ba.mp hi
   obtain⟨us,hui,hbH⟩:=hR.get hbi;have hil:=(al.mp hui).1;obtain⟨hul,huf⟩:=hpre us (az hui);have htk:pre.take (i+1)=pre.take i++[us]:=by rw[br,hui];rfl
   have hgi:=hgl (pre.take i);have htl:(pre.take i).length=i:=by rw[a8];omega
   have hb1:(Dt.grL ts p (pre.take i) ws lt).length+ws.length<=10000000:=by
    have h1:(i+1)*ws.length<=pre.length*ws.length:=gg _ hil;rw[gt,gf] at h1;rw[htl] at hgi;omega
   generalize hpr:Dt.grL ts p (pre.take i) ws lt=pr at hR2 hb1;refine⟨_,rfl,B,rfl,⟨_,sG.seq hB⟩,?_⟩;refine cD (K:=K) (a:=B) (xs:=ws.map T) (fun j σ G2=>aM H G2∧∃ (bs3:List Addr) (v7 v8:Option V),G2 D=some (.lst (bs3.map V.ref))∧Dt.R2 (fun us b=>(b≠D∧H b=none)∧G2 b=some (.lst (us.map T))) (pr++((ws.take j).filter fun w=>decide (Dt.okP ts p (us++[w]++lt))).map fun w=>us++[w]) bs3∧σ=[some (.ref L),some (.ref B),some (.ref C),some (T p),some (.int ((ts.length+1:Nat):Int)),some (.ref D),some (.ref b),v7,v8])
    ⟨sG,bs2,v7,v8,hdG,by rw[gh];simpa using hR2,rfl⟩ (fun j σ G2 _ h=>h.1.seq hB) ?_ ?_
   ·rintro j y σ G2 hj ⟨sG2,bs3,v7,v8,hdG2,hR3,rfl⟩
    obtain⟨wd,hwj,rfl⟩:∃ wd,ws[j]?=some wd∧T wd=y:=by rw[aj] at hj;exact ba.mp hj
    have hwf:=hws wd (az hwj);have htj:ws.take (j+1)=ws.take j++[wd]:=by rw[br,hwj];rfl
    have hb3:=hR3.len;have hb4:bs3.length<16777216:=by
     rw[ag,aR] at hb3;have h1:=b8 (fun w=>decide (Dt.okP ts p (us++[w]++lt))) (ws.take j);rw[a8] at h1;omega
    refine⟨_,rfl,_,rfl,(by show 1<=sizeLine;omega),fun e he=>?_⟩;have te:=aE (o:=.lst [T wd]) he;refine⟨b,e,_,_,rfl,rfl,SqL.of (te b _ (sG2 b _ hbH)),SqL.of aB,(by rw[aR];show _+1<=sizeLine;omega),fun m hm=>?_⟩;have tm:=aE (o:=.lst (us.map T++[T wd])) hm;have hmm:upd (upd G2 e (.lst [T wd])) m (.lst (us.map T++[T wd])) m=some (.lst ((us++[wd]).map T)):=by rw[aB,ax];rfl
    have hmD:m≠D:=fun z=>by rw[z,te D _ hdG2] at hm;cases hm
    have hmn:G2 m=none:=cH te hm;have t2:=te.trans tm;generalize upd (upd G2 e (.lst [T wd])) m (.lst (us.map T++[T wd]))=G3 at hmm t2;refine⟨_,rfl,_,rfl,m,C,_,_,rfl,rfl,SqL.of hmm,(sG2.trans t2).seq hC,(by rw[aR,aR,ag];show _+1+_<=sizeLine;omega),fun c hc=>?_⟩;have tc:=aE (o:=.lst ((us++[wd]).map T++lt.map T)) hc;have hfr:rW ts p (us++[wd]++lt):=(huf.app fun w hw=>by rw[aq.mp hw];exact hwf).app hlt;refine⟨_,rfl,c,us++[wd]++lt,p,rfl,.inl (SqL.of (by rw[aB,<- ax])),⟨by rw[ag,ag];show _+1+_<=1000;omega,fun x hx=>(hfr x hx).2⟩,fun D6 fs H6 hD6 s6 hd6 hfn hpf hcl hle=>?_⟩;have key:=Dt.Eo (us:=us++[wd]++lt) (ks:=fs) htn hp (fun w hw=>(hfr w hw).1) hfn hpf hcl hle;refine⟨D6,_,rfl,hd6,_,rfl,_,rfl,_,rfl,_,rfl,?_⟩;rw[vN];have t26:=t2.trans (tc.trans s6);have hR4:=xL hR3 (S:=fun us b=>(b≠D∧H b=none)∧H6 b=some (.lst (us.map T))) fun a' b' r=>⟨r.1,t26 b' _ r.2⟩
    by_cases hk:Dt.okP ts p (us++[wd]++lt)
    ·refine itP (decide_eq_true (by have:=key.mpr hk;omega)) ?_
     have hd7:=t26 D _ hdG2;refine⟨_,rfl,.inl ⟨rfl,_,SqL.of hd7⟩,_,rfl,D,_,_,rfl,rfl,hd7,(by rw[aR];omega),?_⟩;refine⟨fun b' o' e'=>by rw[aH (aK e' hD)];exact t26 b' o' (sG2 b' o' e'),bs3++[m],some (T wd),some (.ref m),by rw[aB,ax];rfl,?_,rfl⟩;rw[htj,d8,c8 (p:=fun w=>decide (Dt.okP ts p (us++[w]++lt))) (decide_eq_true hk),g0,ax,<- g8];refine Dt.R2.snoc (xL hR4 fun a' b' r=>⟨r.1,by rw[aH r.1.1];exact r.2⟩) ⟨⟨hmD,cH sG2 hmn⟩,?_⟩;rw[aH hmD];exact (tc.trans s6) m _ hmm
    ·refine itN (fun z=>hk (key.mp (by have:=of_decide_eq_true z;omega))) ?_
     refine⟨sG2.trans t26,bs3,some (T wd),some (.ref m),t26 D _ hdG2,?_,rfl⟩;rw[htj,d8,c9 (p:=fun w=>decide (Dt.okP ts p (us++[w]++lt))) (fun z=>hk (of_decide_eq_true z)),g0,dy];exact hR4
   ·rintro σ G2 ⟨sG2,bs3,v7,v8,hdG2,hR3,rfl⟩
    rw[aR,bv] at hR3;refine⟨sG2,bs3,_,_,_,hdG2,?_,rfl⟩;rw[htk];unfold Dt.grL at hpr ⊢;rw[ll,hpr,ca,qx,dy];exact hR3
  ·rintro σ G ⟨sG,bs2,v6,v7,v8,hdG,hR2,rfl⟩
   rw[aR,<- hbl,bv] at hR2;exact⟨_,rfl,q D bs2 G hD sG hdG (xL hR2 fun a' b' r=>⟨r.1.2,r.2⟩)⟩
def Az (K:ac)(C:Addr)(ad:Adr):Sp:=fun vs H Q E=>∃ (x tp:Addr) (n:Nat) (ms:List (List Nat)) (p:List Nat),vs=[.ref x,T p]∧jO C H x tp n ms∧gT ms n∧(¬ IsP ms p->∀ H',aM H H'->E (.ref ad.NoSuch) none H') ∧
 (IsP ms p->∀ ts:List (List Nat),lR ms p ts->(500<Dt.nC ts (dF ms)->∀ H',aM H H'->E (.ref ad.TooMany) none H')∧(Dt.nC ts (dF ms)<=500->(∀ i,(Dt.iU (dF ms) (ts.take i)).length<=100000)∧∀ (D:Addr) (bs:List Addr) (H':Hp),aM H H'->H D=none->H' D=some (.lst (bs.map V.ref))->Dt.R2 (fun us b=>H b=none∧H' b=some (.lst (us.map T))) (Dt.trs ts ts (dF ms)) bs->Q (.ref D) H'))
theorem Go {f:Addr}{fd:FuncData}(F:Fun K "trees" "trees" pF f fd)(tt:Txt K mg ad)(C_ways_toward:Cal P w K mg base (CX1 P w) "ways_toward" 3 ["web", "piece"] (vE ad.Web ad))(C_choices_counted:Cal P w K mg base (CX1 P w) "choices_counted" 4 ["ways"] (tU K))(C_begin_of:Cal P w K mg base (CX1 P w) "begin_of" 1 ["word"] kK)(C_grown:Cal P w K mg base (CX1 P w) "grown" 3 ["begun", "words", "later", "piece", "size"] (As K)) :
  cN P w K mg base (CX1 P w) 5 f fd ["web", "piece"] (Az K ad.Web ad):=by
 refine F.okX hZ (fun vs H Q E h=>?_) (fun cdv A outer s H vs Q E hr h=>?_)
 ·obtain⟨x,tp,n,ms,p,rfl,_⟩:=h
  rfl
 ·obtain⟨x,tp,n,ms,p,rfl,hW,hok,xn,q⟩:=h
  have hs:sizeLine=16777216:=sizeLine_eq;obtain⟨hne,h64,⟨hn,hfew⟩,hxs,hnd⟩:=id hok;obtain⟨⟨dx,hx⟩,htp⟩:=id hW;refine⟨_,(aC (aJ (i:=2) hZ.nd rfl (Or.inl rfl) (aU C_ways_toward hr oB (aA (pv 0) (aA (pv 1) aD))))
   (aC (bU (aO kB (aU C_choices_counted hr bQ (aA (pv 2) aD)) (eK (by rfl) tt.g_MOST_TREES tt.r_MOST_TREES) (aY _)) (aF (eI (E:=fun cls H'=>E cls none H') tt.x_TooMany rfl (fun _ _ _ _ _ _ _ I hx q=>gY I hx q) (aA (bW [116,104,101,114,101,32,97,114,101,32,109,111,114,101,32,116,104,97,110,32,53,48,48,32,116,114,101,101,115,32,116,111,119,97,114,100,32,116,104,101,32,112,105,101,99,101] (by decide +kernel)) aD))) aV)
   (aC (aJ (i:=3) hZ.nd rfl (Or.inl rfl) (bT (aA (bT aD) aD)))
   (aC (bZ PassesOwn.leaving rfl (bL (dH (lQ rfl) (by rfl) tt.b_list (by decide +kernel) (aA (pv 2) aD))) (bG (i:=4) hZ.nd rfl (Or.inr rfl)) (aC (jQ (i:=5) Aa rfl (uJ (rC (pv 0) rfl)) (fun cl C s' H' fp=>(aO Kn (aU C_begin_of hr bQ (aA (pv 0) aD)) (pv 5) (aY _))) (fun cl C s' H' fp=>(pv 0)) hZ.nd rfl rfl)
   (aF (aJ (i:=3) hZ.nd rfl (Or.inl rfl) (aU C_grown hr bQ (aA (pv 3) (aA (gS (eC hr) (pv 2) (pv 4) (fun _ _=>rfl)) (aA (pv 5) (aA (pv 1) (aA (aL cU (aN kQ (by rfl) tt.b_len bc (aA (pv 2) aD)) aG) aD))))))))))
   (aF (bA (pv 3))))))),?_⟩
  (try rw[dS]);(try rw[cxK1])
  refine⟨_,rfl,_,rfl,x,tp,n,ms,p,rfl,hW,hok,xn,fun hip D ps kvs H1 hD s1 hd1 hwa hps62 hpw hpn hpm=>?_⟩;have hts:=Mq (p:=p) hpw hpn hpm;have htl:(ps.filter fun o=>decide (o≠p)).length<=62:=a7 (b8 ..) hps62;generalize (ps.filter fun o=>decide (o≠p))=ts at hwa hts htl;obtain⟨xk,q⟩:=q hip ts hts;have htn:=hts.nd;have hcc:∀ g,GOk ms ts g->(ts.length<=64∧∀ o∈ts,(g o).length<=200∧∀ y∈g o,1<=y.length∧y.length<=1000)∧vB (gO ts g) ts.length∧2*Dt.pL ((gO ts g).map (Dt.rs ts.length))<Dt.md 7:=fun g hg=>⟨⟨by omega,fun o ho=>⟨by have:=(hg o ho).1;omega,fun y hy=>by have:=(hxs y ((hg o ho).2 y hy)).1;omega⟩⟩,Ia (by omega) fun o ho=>(hg o ho).1⟩
  have hg0:GOk ms ts (dF ms):=GOk.out (by omega);obtain⟨c1,c2,c3⟩:=hcc _ hg0;refine⟨_,rfl,D,ts,kvs,dF ms,rfl,hd1,hwa,c1,c2,c3,fun G1 s2=>?_⟩;rw[Ps htn];refine⟨_,_,rfl,rfl,_,rfl,?_⟩;by_cases hk1:500<Dt.nC ts (dF ms)
  ·refine itP (decide_eq_true (by omega)) ?_
   exact⟨(by show 1<=sizeLine;omega),xk hk1 G1 (s1.trans s2)⟩
  refine itN (fun z=>hk1 (by have:=of_decide_eq_true z;omega)) ?_;obtain⟨hfew2,q⟩:=q (by omega);have hpc:∀ w∈ms,(Wd.beg w=p∨Wd.beg w∈ts)∧(Wd.fin w=p∨Wd.fin w∈ts):=fun w hw=>by
   refine⟨?_,?_⟩
   ·by_cases e:Wd.beg w=p
    ·exact .inl e
    ·exact .inr ((hts.2 _).mpr ⟨⟨w,hw,.inl rfl⟩,e⟩)
   ·by_cases e:Wd.fin w=p
    ·exact .inl e
    ·exact .inr ((hts.2 _).mpr ⟨⟨w,hw,.inr rfl⟩,e⟩)
  have hfrom:∀ us:List (List Nat),(∀ w∈us,w∈ms)->rW ts p us:=fun us h w hw=>⟨(hpc w (h w hw)).1,by have:=(hxs w (h w hw)).1;omega⟩
  have hdG:=s2 D _ hd1;have hwG:=hwa.mono s2;refine⟨(by show 0<=sizeLine;omega),fun e0 he0=>?_⟩;have t0:=aE (o:=.lst []) he0;refine⟨(by show 1<=sizeLine;omega),fun b0 hb0=>?_⟩;have t1:=aE (o:=.lst [V.ref e0]) hb0;refine⟨_,rfl,D,ts,kvs,rfl,t1 D _ (t0 D _ hdG),hwa.keys,fun L hL=>?_⟩;have tL:=aE (o:=.lst (ts.map T)) hL;refine⟨L,rfl,⟨_,SqL.of aB⟩,?_⟩;have t02:=t0.trans (t1.trans tL);have sL:=s1.trans (s2.trans t02);refine cD (K:=K) (a:=L) (xs:=ts.map T) (fun i σ G=>aM G1 G∧G L=some (.lst (ts.map T))∧∃ (Bg:Addr) (bs:List Addr) (Ls:List (List (List Nat))) (v4 v5:Option V),(H Bg=none∧G Bg=some (.lst (bs.map V.ref)))∧Dt.R2 (fun us b=>H b=none∧G b=some (.lst (us.map T))) Ls bs∧Dt.Stg ms ts p i Ls∧σ=[some (.ref x),some (T p),some (.ref D),some (.ref Bg),v4,v5])
   ⟨t02,aB,b0,[e0],[[]],none,none,⟨cH (s1.trans (s2.trans t0)) hb0,tL b0 _ aB⟩,.cons ⟨cH (s1.trans s2) he0,by rw[tL e0 _ (t1 e0 _ aB)];rfl⟩ .nil,Dt.Stg.zero,rfl⟩ (fun i σ G _ h=>SqL.of h.2.1) ?_ ?_
  ·rintro i y σ G hi ⟨sG,hLG,Bg,bs,Ls,v4,v5,hBg,hRL,hst,rfl⟩
   obtain⟨t,hti,rfl⟩:∃ t,ts[i]?=some t∧T t=y:=by rw[aj] at hi;exact ba.mp hi
   have htm:=az hti;have s1G:=s1.trans (s2.trans sG);refine⟨_,rfl,x,ad.Web,dx,_,_,rfl,s1G x _ hx,tt.cl_Web,tt.na_Web_words,qN _ _,tp,rfl,⟨_,SqT.of (s1G tp _ htp)⟩,?_⟩;refine wD (fun v=>decide (t<beg (unT v))) (fun v=>v) (iA (SqT.of (s1G tp _ htp))) (by rw[aR];omega) (fun v G5 hv s5 N hN=>?_) (fun v G5 hv hp s5 N hN=>?_) fun D5 G5 hD5 s5 hd5=>?_
   ·obtain⟨l,hl,rfl⟩:=ar.mp hv
    have hll:=(hxs l hl).1;have z:=hN G5 (aM.refl _);rw[dP] at z;exact⟨_,rfl,l,rfl,⟨by omega,by omega⟩,_,rfl,_,rfl,_,rfl,_,rfl,z⟩
   ·exact⟨_,rfl,hN G5 (aM.refl _)⟩
   rw[show (ms.map T).filter (fun v=>decide (t<beg (unT v)))=(ms.filter fun l=>decide (t<beg l)).map T from gE (p:=fun l=>decide (t<beg l)) ms,ua] at hd5;have hwG5:=(hwG.mono sG).mono s5;obtain⟨b,hb1,hb2⟩:=hwG5.get htm;have hlsl:∀ us∈Ls,us.length<=100∧rW ts p us:=fun us hu=>by
    unfold Dt.Stg at hst;rw[hst] at hu;obtain⟨h1,h2⟩:=Dt.mL (g:=Dt.og ms) (fun t _ w hw=>(Dt.jT.mp hw).2) (cf.mp hu).1;refine⟨?_,hfrom us fun w hw=>(Dt.jT.mp (h2 w hw)).1⟩
    have:=congrArg ge h1
    rw[aR,a8] at this;omega
   refine⟨_,rfl,_,rfl,_,rfl,D,_,rfl,(by have z:=gL.k (k:=bx (tx t)) (s5 D _ (sG D _ hdG));rw[hb1] at z;exact z),_,rfl,_,rfl,_,rfl,D,_,rfl,s5 D _ (sG D _ hdG),_,_,rfl,rfl,?_⟩;refine⟨Bg,b,D5,bs,Ls,dF ms t,ms.filter fun l=>decide (t<beg l),ts,p,?_,SqL.of (s5 Bg _ hBg.2),xL hRL fun us b' r=>s5 b' _ r.2,SqL.of hb2,SqL.of hd5,⟨?_,a7 (b8 ..) (by omega),hlsl⟩,hfrom _ fun w hw=>(kM hw).1,hfrom _ fun w hw=>(cf.mp hw).1,htn,hts.no,fun D7 bs' H7 hD7 s7 hd7 hR7=>?_⟩
   ·rw[hwa.len,oj]
    rfl
   ·have h1:Ls.length<=100000:=a7 hst.len (hfew2 i)
    have h2:(dF ms t).length<=63:=a7 (b8 ..) (by omega);exact a7 (fj h1 h2) (by decide)
   ·have s57:=s5.trans s7
    exact⟨sG.trans s57,s57 L _ hLG,D7,bs',_,_,_,⟨cH (s1G.trans s5) hD7,hd7⟩,xL hR7 fun us b' r=>⟨cH (s1G.trans s5) r.1,r.2⟩,hst.next hts.1 hti,rfl⟩
  ·rintro σ G ⟨sG,hLG,Bg,bs,Ls,v4,v5,hBg,hRL,hst,rfl⟩
   rw[aR] at hst;have e:=hst.last hts.1 hts.no hpc;rw[e] at hRL;exact⟨_,rfl,q Bg bs G (s1.trans (s2.trans sG)) hBg.1 hBg.2 hRL⟩
def cKs (ls:List (List Nat))(cw:List Nat->List Nat):List (Key×V):=ls.map fun t=>(bx (tx t),T (cw t))
theorem uN {ls:List (List Nat)}{cw:List Nat->List Nat}:(cKs ls cw).length=ls.length:=by unfold cKs;rw[aR]
theorem pJ {t:List Nat}{cw:List Nat->List Nat}:∀ {ls:List (List Nat)},eM (cKs ls cw) (bx (tx t))=if t∈ls then some (T (cw t)) else none
 | []=>by simp[cKs,eM]
 | l::ls=>by
  have ih:=@pJ t cw ls;by_cases h:l=t
  ·subst h
   rw[if_pos (am ..)];exact fM rfl
  ·show eM ((bx (tx l),T (cw l))::cKs ls cw) _=_
   rw[eT (fun z=>h (eF (gc z))),ih];by_cases h2:t∈ls
   ·rw[if_pos h2,if_pos (ai _ h2)]
   ·rw[if_neg h2,if_neg (fun z=>(au.mp z).elim (fun e=>h e.symm) h2)]
def stT (ls:List (List Nat))(cw:List Nat->List Nat)(t:List Nat):List Nat:=if t∈ls then (cw t).drop 1 else t
def itT (ls:List (List Nat))(cw:List Nat->List Nat):Nat->List Nat->List Nat
 | 0,t=>t
 | k+1,t=>stT ls cw (itT ls cw k t)
def eE (ls:List (List Nat))(cw:List Nat->List Nat):Bool:=ls.all fun t=>decide (itT ls cw ls.length t∉ls)
def Ay:Sp:=fun vs H Q _=>∃ (a:Addr) (ls:List (List Nat)) (cw:List Nat->List Nat),vs=[.ref a]∧H a=some (.dK (cKs ls cw))∧(ls.length<=1000∧∀ t∈ls,1<=(cw t).length∧(cw t).length<=1000)∧Q (.bl (eE ls cw)) H
theorem rN {f:Addr}{fd:FuncData}(F:Fun K "_law_comes" "_law_comes" iK f fd)(tt:Txt K mg ad):cN P w K mg base (CX1 P w) 1 f fd ["chosen"] Ay:=by
 refine F.okN eG (fun vs H Q E h=>?_) (fun cdv A outer s H vs Q E hr h=>?_)
 ·obtain⟨a,ls,cw,rfl,_⟩:=h
  rfl
 ·obtain⟨a,ls,cw,rfl,hd,⟨hl,hw⟩,q⟩:=h
  have hs:sizeLine=16777216:=sizeLine_eq;refine⟨_,(aC (bZ PassesOwn.never rfl (Ki (pv 0)) (bG (i:=1) eG.nd rfl (Or.inl rfl)) (aC (aJ (i:=2) eG.nd rfl (Or.inl rfl) (pv 1))
   (aC (bZ PassesOwn.never rfl (gB (by rfl) tt.b_range (aA (aN En (by rfl) tt.b_len bc (aA (pv 0) aD)) aD)) (bG (i:=3) eG.nd rfl (Or.inl rfl)) (aF (bU (vV (Fd (eC hr) (pv 2) (pv 0))) (aF (aJ (i:=2) eG.nd rfl (Or.inl rfl) (aS lA (gS (eC hr) (pv 0) (pv 2) (fun _ _=>rfl)) (aX aG) bD))) aV)))
   (aF (bU (vV (Fd (eC hr) (pv 2) (pv 0))) (aF (bA (wY fK))) aV)))))
   (aF (bA (wY fK)))),?_⟩
  (try rw[dS]);(try rw[cxK1])
  refine⟨_,rfl,a,_,rfl,hd,fun o=>?_⟩;have hfr:upd H a (.frz o (.dK (cKs ls cw))) a=some (.frz o (.dK (cKs ls cw))):=aB;have back:upd (upd H a (.frz o (.dK (cKs ls cw)))) a (.dK (cKs ls cw))=H:=by
   rw[uH]
   funext b
   by_cases hb:b=a
   ·subst hb
    rw[aB,hd]
   ·rw[aH hb]
  have hget:∀ t:List Nat,gL (upd H a (.frz o (.dK (cKs ls cw)))) a (T t) (if t∈ls then some (T (cw t)) else none):=fun t=>by
   rw[<- pJ];exact .inl ⟨cKs ls cw,bx (tx t),.inr ⟨o,hfr⟩,rfl,rfl⟩
  refine Jh (fun i σ H2=>H2=upd H a (.frz o (.dK (cKs ls cw)))∧∃ (v1 v2 v3:Option V),((ls.take i).all fun t=>decide (itT ls cw ls.length t∉ls))=true∧σ=[some (.ref a),v1,v2,v3]) ⟨rfl,none,none,none,rfl,rfl⟩ (fun i σ H2 _ h=>by rw[h.1];exact hfr) ?_ ?_
  ·rintro i kv σ H2 hi ⟨rfl,v1,v2,v3,hall,rfl⟩
   obtain⟨t,ht,rfl⟩:∃ t,ls[i]?=some t∧(bx (tx t),T (cw t))=kv:=by unfold cKs at hi;rw[aj] at hi;exact ba.mp hi
   have htk:ls.take (i+1)=ls.take i++[t]:=by rw[br,ht];rfl
   refine⟨_,rfl,_,rfl,a,_,rfl,.inr ⟨o,hfr⟩,_,rfl,?_⟩;rw[uN];refine⟨(by omega),(by omega),?_⟩;refine gA (fun j σ H3=>H3=upd H a (.frz o (.dK (cKs ls cw)))∧∃ (v3:Option V),σ=[some (.ref a),some (T t),some (T (itT ls cw j t)),v3]) ⟨rfl,v3,rfl⟩ ?_ ?_
   ·rintro j σ H3 hj ⟨rfl,v3,rfl⟩
    refine⟨_,rfl,_,rfl,a,_,rfl,hget _,_,rfl,?_⟩;by_cases hm:itT ls cw j t∈ls
    ·have hwl:=hw _ hm
     refine itP (by rw[if_pos hm];rfl) ?_;refine⟨_,rfl,_,rfl,a,_,rfl,(by have g:=hget (itT ls cw j t);rw[if_pos hm] at g;exact g),_,rfl,_,rfl,(by omega),?_⟩;rw[show fX (cw (itT ls cw j t)) (some 1) none=(cw (itT ls cw j t)).drop 1 from hJ (k:=1) hwl.1];refine⟨rfl,some (.int (0+(j:Int))),?_⟩;show _=[_,_,some (T (stT ls cw (itT ls cw j t))),_];unfold stT;rw[if_pos hm];rfl
    ·refine itN (by rw[if_neg hm];exact ak) ?_
     refine⟨rfl,some (.int (0+(j:Int))),?_⟩;show _=[_,_,some (T (stT ls cw (itT ls cw j t))),_];unfold stT;rw[if_neg hm];rfl
   ·rintro σ H3 ⟨rfl,v3,rfl⟩
    rw[bt];refine⟨_,rfl,_,rfl,a,_,rfl,hget _,_,rfl,?_⟩;by_cases hm:itT ls cw ls.length t∈ls
    ·refine itP (by rw[if_pos hm];rfl) ?_
     refine⟨a,o,_,_,hfr,hd,?_⟩;rw[back];have e:eE ls cw=false:=by
      cases hc:eE ls cw with
      | false=>rfl
      | true=>exact absurd hm (of_decide_eq_true (dh.mp hc t (az ht)))
     rw[e] at q;exact q
    ·refine itN (by rw[if_neg hm];exact ak) ?_
     refine⟨rfl,_,_,_,?_,rfl⟩;rw[htk,List.all_append,hall];simp[hm]
  ·rintro σ H2 ⟨rfl,v1,v2,v3,hall,rfl⟩
   rw[uN,bv] at hall;refine⟨a,o,_,_,hfr,hd,?_⟩;rw[back];have e:eE ls cw=true:=hall;rw[e] at q;exact q
theorem Im {α β:Type}{R:α->β->Prop}{as:List α}{bs:List β}{p:α->Bool}{q:β->Bool}(h:Dt.R2 R as bs)(e:∀ a b,R a b->p a=q b):Dt.R2 R (as.filter p) (bs.filter q):=by
 induction h with
 | nil=>exact .nil
 | @cons a b _ _ r _ ih =>
  by_cases z:p a=true
  ·rw[c8 z,c8 (by rw[<- e a b r];exact z)]
   exact .cons r ih
  ·rw[c9 z,c9 (by rw[<- e a b r];exact z)]
   exact ih
theorem Ov {α β γ:Type}{R:α->β->Prop}{as:List α}{bs:List β}(f:β->γ)(h:Dt.R2 R as bs):Dt.R2 (fun a c=>∃ b,c=f b∧R a b) as (bs.map f):=by
 induction h with
 | nil=>exact .nil
 | cons r _ ih=>exact .cons ⟨_,rfl,r⟩ ih
theorem Od {α β γ:Type}{R:α->β->Prop}{S:β->γ->Prop}{as:List α}{bs:List β}(h:Dt.R2 R as bs):∀ {cs:List γ},Dt.R2 S bs cs->Dt.R2 (fun a c=>∃ b,R a b∧S b c) as cs:=by
 induction h with
 | nil=>intro cs h2;cases h2;exact .nil
 | cons r _ ih =>
  intro cs h2
  cases h2 with
  | cons r2 h2=>exact .cons ⟨_,r,r2⟩ (ih h2)
theorem yX {g:List Nat->List (List Nat)}{t:List Nat}:∀ l:List (List Nat->List Nat),(l.flatMap fun f=>(g t).map fun w=>Dt.dA f t w).length=l.length*(g t).length
 | []=>by simp
 | f::l=>by rw[ca,ag,aR,yX l,aw,gt,gf,iw]
theorem Lx {ls:List (List Nat)}{f:List Nat->List Nat}{t w:List Nat}(h:t∉ls):eD (cKs ls f) (bx (tx t)) (T w)=cKs (ls++[t]) (Dt.dA f t w):=by
 have hn:¬ ((cKs ls f).any fun kv=>decide (kv.1=bx (tx t)))=true:=fun z=>by
  obtain⟨kv,h1,h2⟩:=iq.mp z;obtain⟨u,h3,rfl⟩:=ar.mp h1;exact h (eF (gc (of_decide_eq_true h2))▸h3)
 unfold eD;rw[if_neg hn];unfold cKs;rw[ax,l6,Dt.iF]
 congr 1
 exact bb fun u hu=>by have hne:u≠t:=fun e=>h (e▸hu);rw[Dt.lZ hne]
theorem Hy {ls:List (List Nat)}{f:List Nat->List Nat}:(cKs ls f).map (·.1)=ls.map fun t=>bx (tx t):=by unfold cKs;rw[bf];rfl
theorem tX {ls:List (List Nat)}{f f':List Nat->List Nat}(h:∀ t∈ls,f t=f' t){t:List Nat}:∀ k,itT ls f k t=itT ls f' k t
 | 0=>rfl
 | k+1=>by
  show stT ls f (itT ls f k t)=stT ls f' (itT ls f' k t);rw[tX h k];unfold stT;by_cases e:itT ls f' k t∈ls
  ·rw[if_pos e,if_pos e,h _ e]
  ·rw[if_neg e,if_neg e]
theorem mJ {ls:List (List Nat)}{f f':List Nat->List Nat}(h:∀ t∈ls,f t=f' t):eE ls f=eE ls f':=by
 unfold eE
 congr 1
 funext t
 rw[tX h]
def rdC (H:Hp)(v:V)(t:List Nat):List Nat:=match v with
 | .ref b=>match H b with
  | some (.dK kvs)=>match eM kvs (bx (tx t)) with
   | some x=>unT x
   | none=>[]
  | _=>[]
 | _=>[]
theorem uT {H:Hp}{b:Addr}{ls:List (List Nat)}{f:List Nat->List Nat}(h:H b=some (.dK (cKs ls f))):∀ t∈ls,rdC H (.ref b) t=f t:=fun t ht=>by
 unfold rdC
 dsimp only
 rw[h]
 dsimp only
 rw[pJ,if_pos ht];exact dP _
theorem xN {g:List Nat->Nat}:∀ (ls:List (List Nat)) (m:Nat),((ls.take m).map g).sum<=(ls.map g).sum
 | [],m=>by simp
 | l::ls,0=>by simp
 | l::ls,m+1=>by
  rw[List.take_succ_cons,a0,a0,dk,dk]
  have:=xN (g:=g) ls m
  omega
theorem tP {g:List Nat->List (List Nat)}{so ls:List (List Nat)}(hp:so.Perm ls)(h:(ls.map fun t=>(g t).length).sum<=20)(m:Nat):(Dt.chs g (so.take m).reverse).length<=1048576:=by
 have h1:=Dt.qE (g:=g) (so.take m).reverse;have h2:((so.take m).reverse.map fun t=>(g t).length).sum<=20:=by
  rw[((jz (so.take m)).map fun t=>(g t).length).sum_nat];refine a7 (xN so m) ?_;rw[(hp.map fun t=>(g t).length).sum_nat];exact h
 have h3:2 ^ ((so.take m).reverse.map fun t=>(g t).length).sum<=2 ^ 20:=d9 (by decide) h2;exact a7 h1 h3
def Iy:Sp:=fun vs H Q _=>∃ (a:Addr) (ls:List (List Nat)) (kvs:List (Key×V)) (g:List Nat->List (List Nat)),vs=[.ref a]∧H a=some (.dK kvs)∧bC H g ls kvs∧ls.Nodup∧(ls.length<64∧(ls.map fun t=>(g t).length).sum<=20∧∀ t∈ls,∀ x∈g t,1<=x.length∧x.length<=1000) ∧
 ∀ (so:List (List Nat)) (D:Addr) (bs:List Addr) (H':Hp),so.Perm ls->so.Pairwise (fun a b=>¬ b<a)->H D=none->aM H H'->H' D=some (.lst (bs.map V.ref))->Dt.R2 (fun f b=>b≠D∧H b=none∧H' b=some (.lst ((so.map f).map T))) ((Dt.chs g so.reverse).filter (eE so)) bs->Q (.ref D) H'
theorem kZ {f:Addr}{fd:FuncData}(F:Fun K "_law_all_choices" "_law_all_choices" dJ f fd)(tt:Txt K mg ad)(C__law_comes:Cal P w K mg base (CX1 P w) "_law_comes" 1 ["chosen"] Ay):cN P w K mg base (CX1 P w) 2 f fd ["ways"] Iy:=by
 refine F.okN bO (fun vs H Q E h=>?_) (fun cdv A outer s H vs Q E hr h=>?_)
 ·obtain⟨a,ls,kvs,g,rfl,_⟩:=h
  rfl
 ·obtain⟨a,ls,kvs,g,rfl,hd,hwa,nd,⟨hl,hsum,hg⟩,q⟩:=h
  have hs:sizeLine=16777216:=sizeLine_eq;refine⟨_,(aC (aJ (i:=1) bO.nd rfl (Or.inl rfl) (bT (aA mI aD)))
   (aC (bZ PassesOwn.never rfl (bL (aN (gX rfl) (by rfl) tt.b_sorted dt (aA (pv 0) aD))) (bG (i:=2) bO.nd rfl (Or.inl rfl)) (aC (aJ (i:=3) bO.nd rfl (Or.inl rfl) (bT aD))
   (aC (bZ PassesOwn.never rfl (bL (pv 1)) (bG (i:=4) bO.nd rfl (Or.inl rfl)) (aF (bZ PassesOwn.never rfl (bL (gS (eC hr) (pv 0) (pv 2) (fun _ _=>rfl))) (bG (i:=5) bO.nd rfl (Or.inl rfl)) (aC (aJ (i:=6) bO.nd rfl (Or.inl rfl) (dH yC (by rfl) tt.b_dict (by decide +kernel) (aA (pv 4) aD)))
   (aC (pM (eC hr) (pv 6) (pv 2) (pv 5) rfl)
   (aF (cW (iC bz cq cr cL (pv 3) (aA (pv 6) aD)))))))))
   (aF (aJ (i:=1) bO.nd rfl (Or.inl rfl) (pv 3))))))
   (aF (bA (Ei jH rfl (bL (pv 1)) (fun cl C s' H' fp=>(lN (aU C__law_comes hr bQ (aA (pv 0) aD)))) (fun cl C s' H' fp=>(dU jK rfl (Hb K rfl (aN (gX rfl) (by rfl) tt.b_sorted dt (aA (pv 0) aD))) (fun cl C s' H' fp=>(gS (eC hr) (pv 1) (pv 0) (fun _ _=>rfl)))))))))),?_⟩
  (try rw[dS]);(try rw[cxK1])
  refine fun d hd0=>?_
  have s1:=aE (o:=.dK []) hd0;refine⟨(by show 1<=sizeLine;omega),fun F0 hF0=>?_⟩;have s2:=s1.trans (aE (o:=.lst [.ref d]) hF0);have hdd:upd (upd H d (.dK [])) F0 (.lst [.ref d]) d=some (.dK []):=(aE (o:=.lst [.ref d]) hF0) d _ aB;have hFF:upd (upd H d (.dK [])) F0 (.lst [.ref d]) F0=some (.lst [.ref d]):=aB;generalize upd (upd H d (.dK [])) F0 (.lst [.ref d])=H2 at s2 hdd hFF;refine⟨_,rfl,a,ls,kvs,rfl,s2 a _ hd,hwa.keys,hl,fun so S hS hp hw=>?_⟩;have s3:=aE (o:=.lst (so.map T)) hS;have hS3:upd H2 S (.lst (so.map T)) S=some (.lst (so.map T)):=aB;have hdd:=s3 d _ hdd;have hFF:=s3 F0 _ hFF;have s03:=s2.trans s3;generalize upd H2 S (.lst (so.map T))=Hs at s3 hS3 hdd hFF s03;have nds:so.Nodup:=hp.nodup_iff.mpr nd;have hgs:∀ t∈so,∀ x∈g t,1<=x.length∧x.length<=1000:=fun t ht=>hg t (hp.mem_iff.mp ht)
  have hsl:so.length<64:=by rw[hp.length_eq];exact hl
  refine⟨S,rfl,⟨_,SqL.of hS3⟩,?_⟩;refine cD (K:=K) (a:=S) (xs:=so.map T) (fun i σ H3=>aM Hs H3∧∃ (Fi:Addr) (bs:List Addr) (v2 v3 v4 v5 v6:Option V),H3 Fi=some (.lst (bs.map V.ref))∧Dt.R2 (fun f b=>H3 b=some (.dK (cKs (so.take i) f))) (Dt.chs g (so.take i).reverse) bs∧σ=[some (.ref a),some (.ref Fi),v2,v3,v4,v5,v6]) ⟨aM.refl _,F0,[d],none,none,none,none,none,hFF,.cons hdd .nil,rfl⟩ (fun i σ H3 _ h=>SqL.of (h.1 S _ hS3)) ?_ ?_
  ·rintro i y σ H3 hi ⟨s3,Fi,bs,v2,v3,v4,v5,v6,hFi,hR,rfl⟩
   obtain⟨t,hti,rfl⟩:∃ t,so[i]?=some t∧T t=y:=by rw[aj] at hi;exact ba.mp hi
   have htso:=az hti;have htk:so.take (i+1)=so.take i++[t]:=by rw[br,hti];rfl
   have hnot:t∉so.take i:=fun z=>by
    have nd':(so.take i++[t]).Nodup:=htk▸nds.sublist (fh (i+1) so);exact (di.mp nd').2.2 _ z _ (aq.mpr rfl) rfl
   have hch:Dt.chs g (so.take (i+1)).reverse=(Dt.chs g (so.take i).reverse).flatMap fun f=>(g t).map fun w=>Dt.dA f t w:=by rw[htk,lj];rfl
   have hsmall:(Dt.chs g (so.take i).reverse).length*(g t).length<=1048576:=by
    have:=tP (g:=g) hp hsum (i+1)
    rw[hch,yX] at this;exact this
   refine⟨(by show 0<=sizeLine;omega),fun M hM=>?_⟩;have s4:=aE (o:=.lst []) hM;have hM4:upd H3 M (.lst []) M=some (.lst []):=aB;have nM:∀ b o,H3 b=some o->b≠M:=fun b o e=>aK e hM
   generalize upd H3 M (.lst [])=H4 at s4 hM4;have hbl:=hR.len;refine⟨_,rfl,Fi,rfl,⟨_,SqL.of (s4 Fi _ hFi)⟩,?_⟩;refine cD (K:=K) (a:=Fi) (xs:=bs.map V.ref) (fun j σ H5=>Kp M H4 H5∧∃ (cs:List Addr) (v4 v5 v6:Option V),H5 M=some (.lst (cs.map V.ref))∧Dt.R2 (fun f b=>H5 b=some (.dK (cKs (so.take (i+1)) f))) (((Dt.chs g (so.take i).reverse).take j).flatMap fun f=>(g t).map fun w=>Dt.dA f t w) cs∧σ=[some (.ref a),some (.ref Fi),some (T t),some (.ref M),v4,v5,v6]) ⟨fun b o _ e=>e,[],v4,v5,v6,hM4,.nil,rfl⟩ (fun j σ H5 _ h=>SqL.of (h.1 Fi _ (nM Fi _ hFi) (s4 Fi _ hFi))) ?_ ?_
   ·rintro j y σ H5 hj ⟨k5,cs,v4,v5,v6,hM5,hR5,rfl⟩
    obtain⟨b,hbj,rfl⟩:∃ b,bs[j]?=some b∧V.ref b=y:=by rw[aj] at hj;exact ba.mp hj
    obtain⟨f,hfj,hfb⟩:=hR.get hbj;have hjl:j<(Dt.chs g (so.take i).reverse).length:=(al.mp hfj).1;have htj:(Dt.chs g (so.take i).reverse).take (j+1)=(Dt.chs g (so.take i).reverse).take j++[f]:=by rw[br,hfj];rfl
    have nMa:a≠M:=nM a _ (s3 a _ (s03 a _ hd));have hwa5:=(((hwa.mono s03).mono s3).mono s4).get (hp.mem_iff.mp htso);obtain⟨c,hc1,hc2⟩:=hwa5;have hcM:c≠M:=by
     obtain⟨c',hc1',hc2'⟩:=((hwa.mono s03).mono s3).get (hp.mem_iff.mp htso);rw[hc1'] at hc1;obtain rfl:c'=c:=by cases hc1;rfl
     exact nM _ _ hc2'
    have ha5:∀ {H6},Kp M H4 H6->H6 a=some (.dK kvs):=fun {H6} k=>k a _ nMa (s4 a _ (s3 a _ (s03 a _ hd)))
    refine⟨_,rfl,_,rfl,a,_,rfl,(by have z:=gL.k (k:=bx (tx t)) (ha5 k5);rw[hc1] at z;exact z),c,rfl,⟨_,SqL.of (k5 c _ hcM hc2)⟩,?_⟩;refine cD (K:=K) (a:=c) (xs:=(g t).map T) (fun k σ H6=>Kp M H4 H6∧∃ (cs:List Addr) (v5 v6:Option V),H6 M=some (.lst (cs.map V.ref))∧Dt.R2 (fun f b=>H6 b=some (.dK (cKs (so.take (i+1)) f))) ((((Dt.chs g (so.take i).reverse).take j).flatMap fun f=>(g t).map fun w=>Dt.dA f t w)++((g t).take k).map fun w=>Dt.dA f t w) cs∧σ=[some (.ref a),some (.ref Fi),some (T t),some (.ref M),some (.ref b),v5,v6]) ⟨k5,cs,v5,v6,hM5,by rw[gh,je,dy];exact hR5,rfl⟩ (fun k σ H6 _ h=>SqL.of (h.1 c _ hcM hc2)) ?_ ?_
    ·rintro k y σ H6 hk ⟨k6,cs,v5,v6,hM6,hR6,rfl⟩
     obtain⟨wd,hwk,rfl⟩:∃ wd,(g t)[k]?=some wd∧T wd=y:=by rw[aj] at hk;exact ba.mp hk
     have hkl:k<(g t).length:=(al.mp hwk).1;have hcl:cs.length<sizeLine:=by
      have e:=hR6.len;rw[ag,yX,aR,a8,a8,eg (dv hjl),eg (dv hkl)] at e;have h1:(j+1)*(g t).length<=(Dt.chs g (so.take i).reverse).length*(g t).length:=gg _ hjl;rw[gt,gf] at h1;omega
     have hb6:H6 b=some (.dK (cKs (so.take i) f)):=k6 b _ (nM b _ hfb) (s4 b _ hfb);refine⟨_,rfl,b,_,rfl,hb6,fun L hL=>?_⟩;refine⟨_,rfl,_,rfl,_,rfl,L,_,rfl,xD.k (k:=bx (tx t)) aB (by rw[uN,a8];omega),?_⟩;rw[Lx hnot,uH,<- htk];have s7:=aE (o:=.dK (cKs (so.take (i+1)) (Dt.dA f t wd))) hL;have hL7:upd H6 L (.dK (cKs (so.take (i+1)) (Dt.dA f t wd))) L=some (.dK (cKs (so.take (i+1)) (Dt.dA f t wd))):=aB;generalize upd H6 L (.dK (cKs (so.take (i+1)) (Dt.dA f t wd)))=H7 at s7 hL7;have hLM:L≠M:=fun z=>by rw[z,hM6] at hL;cases hL
     refine⟨_,rfl,.inl ⟨rfl,_,SqL.of (s7 M _ hM6)⟩,_,rfl,M,_,_,rfl,rfl,s7 M _ hM6,(by rw[aR];exact hcl),?_⟩;refine⟨fun b' o hb' e=>by rw[aH hb'];exact s7 b' o (k6 b' o hb' e),cs++[L],_,_,by rw[aB,ax];rfl,?_,rfl⟩;rw[show (g t).take (k+1)=(g t).take k++[wd] by rw[br,hwk];rfl,ax,<- g8];refine Dt.R2.snoc (hR6.mono fun f' b' _ e=>?_) ?_
     ·rw[aH (fun z=>by rw[z,hM6] at e;cases e)]
      exact s7 b' _ e
     ·rw[aH hLM]
      exact hL7
    ·rintro σ H6 ⟨k6,cs,v5,v6,hM6,hR6,rfl⟩
     rw[aR,bv] at hR6;refine⟨k6,cs,_,_,_,hM6,?_,rfl⟩;rw[htj,ll];rw[List.flatMap_singleton];exact hR6
   ·rintro σ H5 ⟨k5,cs,v4,v5,v6,hM5,hR5,rfl⟩
    rw[aR,<- hbl,bv,<- hch] at hR5;refine⟨_,rfl,?_⟩;exact⟨fun b o e=>k5 b o (nM b o (s3 b o e)) (s4 b o (s3 b o e)),M,cs,_,_,_,_,_,hM5,hR5,rfl⟩
  ·rintro σ H3 ⟨s3,Fi,bs,v2,v3,v4,v5,v6,hFi,hR,rfl⟩
   rw[aR,bv] at hR;have hbl:bs.length<=1048576:=by
    have:=tP (g:=g) hp hsum so.length
    rw[bv] at this
    have:=hR.len
    omega
   have hat:∀ v∈bs.map V.ref,∃ (b:Addr) (f:List Nat->List Nat),v = .ref b∧f∈Dt.chs g so.reverse∧H3 b=some (.dK (cKs so f)):=fun v hv=>by
    obtain⟨b,hb,rfl⟩:=ar.mp hv;obtain⟨i,hi⟩:=fb hb;obtain⟨f,h1,h2⟩:=hR.get hi;exact⟨b,f,rfl,az h1,h2⟩
   have hwf:∀ f∈Dt.chs g so.reverse,∀ t∈so,1<=(f t).length∧(f t).length<=1000:=fun f hf t ht=>hgs t ht _ (Dt.uK hf t (ko.mpr ht))
   refine⟨_,rfl,Fi,rfl,⟨_,SqL.of hFi⟩,?_⟩;refine Pi (fun v=>eE so (rdC H3 v)) (fun v=>(so.map (rdC H3 v)).map T) (cF (SqL.of hFi)) (by rw[aR];omega) (fun v G hv sg N hN=>?_) (fun v G hv hpv sg N hN=>?_) fun D bs' H' hD s' hd' hR'=>?_
   ·obtain⟨b,f,rfl,hf,hb⟩:=hat v hv
    have z:=hN G (aM.refl _);rw[mJ (uT hb)] at z;exact⟨_,rfl,b,so,f,rfl,sg b _ hb,⟨by omega,hwf f hf⟩,_,rfl,z⟩
   ·obtain⟨b,f,rfl,hf,hb⟩:=hat v hv
    refine⟨_,rfl,b,so,_,rfl,sg b _ hb,Hy,hsl,fun so2 S2 hS2 hp2 hw2=>?_⟩;obtain rfl:so2=so:=Wd.jX hp2 hw2 hw;have sS:=aE (o:=.lst (so2.map T)) hS2;refine⟨S2,rfl,⟨_,SqL.of aB⟩,?_⟩;refine jC (fun v=>T (f (unT v))) (cF (SqL.of aB)) (by rw[aR];omega) (fun v2 G2 hv2 sg2 N2 hN2=>?_) fun D2 G3 hD2 sg3 hd2=>?_
    ·obtain⟨t,ht,rfl⟩:=ar.mp hv2
     have z:=hN2 G2 (aM.refl _);rw[dP] at z;exact⟨_,rfl,_,rfl,b,_,rfl,(by have y:=gL.k (k:=bx (tx t)) (sg2 b _ (sS b _ (sg b _ hb)));rw[pJ,if_pos ht] at y;exact y),z⟩
    ·have hD2n:G D2=none:=by
      cases e:G D2 with
      | none=>rfl
      | some o=>rw[sS D2 o e] at hD2;cases hD2
     refine hN D2 G3 (sS.trans sg3) hD2n ?_;rw[hd2,fU (f:=fun l=>T (f l)),bf];refine congrArg (fun l=>some (HO.lst l)) (bb fun t ht=>?_);show T (f t)=T (rdC H3 (.ref b) t);rw[uT hb t ht]
   ·have s0:=s03.trans s3
    have hnn:∀ b,H3 b=none->H b=none:=fun b hb=>by
     cases e:H b with
     | none=>rfl
     | some o=>rw[s0 b o e] at hb;cases hb
    refine q so D bs' H' hp hw (hnn D hD) (s0.trans s') hd' ?_;have hRf:=Im (p:=eE so) (q:=fun b=>eE so (rdC H3 (.ref b))) hR fun f b e=>(mJ (uT e)).symm
    have hRm:=Ov V.ref hRf;have e2:(bs.filter fun b=>eE so (rdC H3 (.ref b))).map V.ref=(bs.map V.ref).filter fun v=>eE so (rdC H3 v):=by rw[jr];rfl
    rw[e2] at hRm;refine (Od hRm hR').mono fun f c _ ⟨v,⟨b,hv,hb⟩,h1,h2,h3⟩=>⟨h1,hnn c h2,?_⟩
    subst hv;rw[h3];refine congrArg (fun l=>some (HO.lst l)) ?_;rw[bf,bf];exact bb fun t ht=>by show T (rdC H3 (.ref b) t)=T (f t);rw[uT hb t ht]
def Gd (N:Nat)(us:List (List Nat)):Prop:=us.length<=N∧∀ y∈us,1<=y.length∧y.length<=1000
theorem Gd.app {m n k:Nat}{us vs:List (List Nat)}(h:Gd m us)(g:Gd n vs)(e:m+n<=k):Gd k (us++vs):=⟨by rw[ag];have:=h.1;have:=g.1;omega,fun y hy=>(a6.mp hy).elim (h.2 y) (g.2 y)⟩
theorem Gd.sub {m n:Nat}{us vs:List (List Nat)}(h:Gd m us)(s:vs.Sublist us)(e:m<=n):Gd n vs:=⟨by have:=s.length_le;have:=h.1;omega,fun y hy=>h.2 y (s.subset hy)⟩
theorem Gd.rev {m n:Nat}{us:List (List Nat)}(h:Gd m us)(e:m<=n):Gd n us.reverse:=⟨by rw[pf];have:=h.1;omega,fun y hy=>h.2 y (ko.mp hy)⟩
theorem Gd.one {y:List Nat}(h:1<=y.length∧y.length<=1000):Gd 1 [y]:=⟨af 1,fun z hz=>by rw[aq.mp hz];exact h⟩
def dR (us:List (List Nat))(lo hi:Option Int):List (List Nat):=(us.drop (HT.sIx us.length 0 lo)).take (HT.sIx us.length us.length hi-HT.sIx us.length 0 lo)
theorem iV {us:List (List Nat)}{lo hi:Option Int}:cP (us.map T) lo hi=(dR us lo hi).map T:=by
 unfold cP dR;rw[aR,<- jp,<- jq]
theorem fL {us:List (List Nat)}{lo hi:Option Int}:(dR us lo hi).Sublist us:=(fh ..).trans (ml ..)
theorem Gd.cut {m n:Nat}{us:List (List Nat)}{lo hi:Option Int}(h:Gd m us)(e:m<=n):Gd n (dR us lo hi):=h.sub fL e
def sK (K:ac):Sp:=fun vs H Q _=>∃ (a b:Addr) (us ws:List (List Nat)) (c:Int),vs=[.ref a,.ref b,.int c]∧SqL K H a (us.map T)∧SqL K H b (ws.map T)∧Gd 100 us∧Gd 100 ws∧ws≠[] ∧
 ∀ (D:Addr) (bs:List Addr) (H':Hp),aM H H'->H' D=some (.lst (bs.map V.ref))->(∀ r∈bs,∃ vs,H' r=some (.lst (vs.map T))∧Gd 1000 vs)->Q (.ref D) H'
theorem oJ {f:Addr}{fd:FuncData}(F:Fun K "_law_strange" "_law_strange" gC f fd)(tt:Txt K mg ad):cN P w K mg base (CX1 P w) 1 f fd ["tree", "words", "cell"] (sK K):=by
 refine F.okN fP (fun vs H Q E h=>?_) (fun cdv A outer s H vs Q E hr h=>?_)
 ·obtain⟨a,b,us,ws,c,rfl,_⟩:=h
  rfl
 ·obtain⟨a,b,us,ws,c,rfl,hA,hB,hU,hW,hwn,q⟩:=h
  have hs:sizeLine=16777216:=sizeLine_eq;have hul:=hU.1;have hwl:=hW.1;have hw0:=gn.mpr hwn;obtain⟨r,hr1,hr2⟩:∃ r:Nat,c % ((ws.length:Nat):Int)=(r:Int)∧r<ws.length:=by
   have z0:=db c (show ((ws.length:Nat):Int)≠0 by omega);have z1:=ck c (show (0:Int)<((ws.length:Nat):Int) by omega);exact⟨(c % ((ws.length:Nat):Int)).toNat,by omega,by omega⟩
  have hwr:ws[r]?=some ws[r]:=aa hr2;have hwg:=hW.2 _ (b6 hr2);generalize ws[r]=wr at hwr hwg;have hix0:atI (ws.map T) (c % ((ws.length:Nat):Int))=some (T wr):=by rw[hr1];exact cQ (by rw[aj,hwr];rfl)
  have hix:atI (ws.map T) (c % (((ws.map T).length:Nat):Int))=some (T wr):=by rw[aR,hr1];exact cQ (by rw[aj,hwr];rfl)
  refine⟨_,(aC (aJ (i:=3) fP.nd rfl (Or.inl rfl) (bT (aA (yU rfl (by rfl) tt.b_list (by rfl) tt.b_reversed (pv 0)) (aA (aS cC (pv 0) (aX aG) bD) (aA (aS cC (pv 0) bD (aX (kD gI aG))) (aA (aL cY (pv 0) (bT (aA (dC bX (pv 1) (aL cK (pv 2) (aN aP (by rfl) tt.b_len bc (aA (pv 1) aD))) (fun _ _=>rfl)) aD))) (aA (aL cY (pv 0) (bT (aA (bW [97] (by decide +kernel)) aD))) aD)))))))
   (aC (bU (aO kB (aN aP (by rfl) tt.b_len bc (aA (pv 0) aD)) aG (aY _)) (aC (aJ (i:=4) fP.nd rfl (Or.inl rfl) (aL cK (aL fZ (pv 2) aG) (aN aP (by rfl) tt.b_len bc (aA (pv 0) aD))))
   (aC (cW (iC bz cq cr cL (pv 3) (aA (aL cY (aL cY (aS cC (pv 0) bD (aX (pv 4))) (bT (aA (dC bX (pv 1) (aL cK (pv 2) (aN aP (by rfl) tt.b_len bc (aA (pv 1) aD))) (fun _ _=>rfl)) aD))) (aS cC (pv 0) (aX (aL cU (pv 4) aG)) bD)) aD)))
   (aC (cW (iC bz cq cr cL (pv 3) (aA (aL cY (aL cY (aS cC (pv 0) bD (aX (pv 4))) (bT (aA (aL hG (aS lA (dC bX (pv 0) (pv 4) (fun _ _=>rfl)) bD (aX (kD gI aG))) (bW [102] (by decide +kernel))) aD))) (aS cC (pv 0) (aX (aL cU (pv 4) aG)) bD)) aD)))
   (aF (cW (iC bz cq cr cL (pv 3) (aA (aL cY (aL cY (aS cC (pv 0) bD (aX (pv 4))) (aS cC (pv 0) (aX (pv 4)) (aX (aL cU (pv 4) aG)))) (aS cC (pv 0) (aX (pv 4)) bD)) aD))))))) aV)
   (aF (bA (pv 3))))),?_⟩
  (try rw[dS]);(try rw[cxK1])
  refine⟨_,rfl,a,_,rfl,hA,fun p1 hp1=>?_⟩;have t1:=aE (o:=.lst (us.map T).reverse) hp1;refine⟨_,rfl,_,rfl,a,_,rfl,t1.seq hA,fun p2 hp2=>?_⟩;rw[iV];have t2:=aE (o:=.lst ((dR us (some 1) none).map T)) hp2;refine⟨_,rfl,_,rfl,_,rfl,a,_,rfl,(t1.trans t2).seq hA,fun p3 hp3=>?_⟩;rw[iV];have t3:=aE (o:=.lst ((dR us none (some (-1))).map T)) hp3;have t13:=t1.trans (t2.trans t3);refine⟨_,rfl,_,rfl,_,rfl,_,rfl,b,_,rfl,.inl (t13.seq hB),_,_,rfl,rfl,(by rw[aR];omega),b,_,_,_,rfl,rfl,t13.seq hB,hix,(by show 1<=sizeLine;omega),fun p4 hp4=>?_⟩;have t4:=aE (o:=.lst [T wr]) hp4;refine⟨a,p4,_,_,rfl,rfl,(t13.trans t4).seq hA,SqL.of aB,(by rw[aR];show _+1<=sizeLine;omega),fun p5 hp5=>?_⟩;have t5:=aE (o:=.lst (us.map T++[T wr])) hp5;have t15:=t13.trans (t4.trans t5);refine⟨_,rfl,(by show 1<=sizeLine;omega),fun p6 hp6=>?_⟩;have t6:=aE (o:=.lst [T [97]]) hp6;refine⟨a,p6,_,_,rfl,rfl,(t15.trans t6).seq hA,SqL.of aB,(by rw[aR];show _+1<=sizeLine;omega),fun p7 hp7=>?_⟩;have t7:=aE (o:=.lst (us.map T++[T [97]])) hp7;refine⟨(by show 5<=sizeLine;omega),fun S hS=>?_⟩;have t8:=aE (o:=.lst [V.ref p1,V.ref p2,V.ref p3,V.ref p5,V.ref p7]) hS;have t68:=t6.trans (t7.trans t8);have t18:=t15.trans t68;have hgood:∀ r∈[p1,p2,p3,p5,p7],∃ vs,upd (upd (upd (upd (upd (upd (upd (upd H p1 (.lst (us.map T).reverse)) p2 (.lst ((dR us (some 1) none).map T))) p3 (.lst ((dR us none (some (-1))).map T))) p4 (.lst [T wr])) p5 (.lst (us.map T++[T wr]))) p6 (.lst [T [97]])) p7 (.lst (us.map T++[T [97]]))) S (.lst [V.ref p1,V.ref p2,V.ref p3,V.ref p5,V.ref p7]) r=some (.lst (vs.map T))∧Gd 1000 vs:=fun r hr=>by
   rcases au.mp hr with rfl | hr
   ·exact⟨us.reverse,by rw[(t2.trans (t3.trans (t4.trans (t5.trans t68)))) r _ aB,List.map_reverse],hU.rev (by decide)⟩
   rcases au.mp hr with rfl | hr
   ·exact⟨_,(t3.trans (t4.trans (t5.trans t68))) r _ aB,hU.cut (by decide)⟩
   rcases au.mp hr with rfl | hr
   ·exact⟨_,(t4.trans (t5.trans t68)) r _ aB,hU.cut (by decide)⟩
   rcases au.mp hr with rfl | hr
   ·exact⟨us++[wr],by rw[t68 r _ aB,ax];rfl,hU.app (Gd.one hwg) (by decide)⟩
   rw[aq.mp hr];exact⟨us++[[97]],by rw[t8 p7 _ aB,ax];rfl,hU.app (Gd.one (by decide)) (by decide)⟩
  have hSS:upd (upd (upd (upd (upd (upd (upd (upd H p1 (.lst (us.map T).reverse)) p2 (.lst ((dR us (some 1) none).map T))) p3 (.lst ((dR us none (some (-1))).map T))) p4 (.lst [T wr])) p5 (.lst (us.map T++[T wr]))) p6 (.lst [T [97]])) p7 (.lst (us.map T++[T [97]]))) S (.lst [V.ref p1,V.ref p2,V.ref p3,V.ref p5,V.ref p7]) S=some (.lst ([p1,p2,p3,p5,p7].map V.ref)):=aB;have hSn:H S=none:=cH (t15.trans (t6.trans t7)) hS;generalize upd (upd (upd (upd (upd (upd (upd (upd H p1 (.lst (us.map T).reverse)) p2 (.lst ((dR us (some 1) none).map T))) p3 (.lst ((dR us none (some (-1))).map T))) p4 (.lst [T wr])) p5 (.lst (us.map T++[T wr]))) p6 (.lst [T [97]])) p7 (.lst (us.map T++[T [97]]))) S (.lst [V.ref p1,V.ref p2,V.ref p3,V.ref p5,V.ref p7])=H8 at t18 hgood hSS;refine⟨_,rfl,a,_,rfl,.inl (t18.seq hA),_,_,rfl,rfl,_,rfl,?_⟩;by_cases hu:us=[]
  ·refine itN (fun z=>by rw[hu] at z;exact absurd (of_decide_eq_true z) (by decide)) ?_
   exact⟨_,rfl,q S _ H8 t18 hSS hgood⟩
  have hpos:=gn.mpr hu;refine itP (decide_eq_true (by rw[aR];omega)) ?_
  let St:Hp->List Addr->Prop:=fun G bs=>aM H G∧G S=some (.lst (bs.map V.ref))∧∀ r∈bs,r≠S∧∃ vs,G r=some (.lst (vs.map T))∧Gd 1000 vs
  have mono:∀ {G G':Hp} {bs:List Addr},St G bs->aM G G'->St G' bs:=fun h g=>⟨h.1.trans g,g S _ h.2.1,fun r hr=>⟨(h.2.2 r hr).1,by obtain⟨vs,e,z⟩:=(h.2.2 r hr).2;exact⟨vs,g r _ e,z⟩⟩⟩
  have app:∀ {G:Hp} {bs:List Addr} {m:Addr} {vs:List (List Nat)},St G bs->G m=some (.lst (vs.map T))->m≠S->Gd 1000 vs->St (upd G S (.lst (bs.map V.ref++[V.ref m]))) (bs++[m]):=fun {G bs m vs} h e ne z=>by
   refine⟨fun b' o' e'=>by rw[aH (aK e' hSn)];exact h.1 b' o' e',by rw[aB,ax];rfl,fun r hr=>?_⟩;rcases a6.mp hr with hr | hr
   ·obtain⟨n1,vs',e',z'⟩:=h.2.2 r hr
    exact⟨n1,vs',by rw[aH n1];exact e',z'⟩
   ·rw[aq.mp hr]
    exact⟨ne,vs,by rw[aH ne];exact e,z⟩
  have st0:St H8 [p1,p2,p3,p5,p7]:=⟨t18,hSS,fun r hr=>⟨fun z=>by
   obtain⟨vs,e,_⟩:=hgood r hr;rw[z,hSS] at e;rcases vs with _ | ⟨v,vs⟩ <;> (cases e),hgood r hr⟩⟩
  refine⟨_,rfl,_,_,rfl,rfl,⟨by decide,by decide⟩,_,rfl,a,_,rfl,.inl (t18.seq hA),_,_,rfl,rfl,(by rw[aR];omega),?_⟩;obtain⟨j,hj1,hj2⟩:∃ j:Nat,c/7 % (((us.map T).length:Nat):Int)=(j:Int)∧j<us.length:=by
   rw[aR];have z0:=db (c/7) (show ((us.length:Nat):Int)≠0 by omega);have z1:=ck (c/7) (show (0:Int)<((us.length:Nat):Int) by omega);exact⟨(c/7 % ((us.length:Nat):Int)).toNat,by omega,by omega⟩
  rw[show ((fun i j=>V.int (i % j)) (c/7) (((us.map T).length:Nat):Int))=V.int (j:Int) from congrArg V.int hj1];have hur:us[j]?=some us[j]:=aa hj2;have hug:=hU.2 _ (b6 hj2);generalize us[j]=ur at hur hug;clear hgood t68 t15 t13 t1 t2 t3 t4 t5 t6 t7 t8 hp1 hp2 hp3 hp4 hp5 hp6 hp7 hS;have sA:∀ {G bs},St G bs->SqL K G a (us.map T):=fun h=>h.1.seq hA
  refine⟨_,rfl,.inl ⟨rfl,_,SqL.of st0.2.1⟩,?_⟩;refine⟨_,rfl,_,rfl,_,rfl,a,_,rfl,sA st0,fun p1 hp1=>?_⟩;rw[iV];have u1:=aE (o:=.lst ((dR us none (some (j:Int))).map T)) hp1;have st1:=mono st0 u1;refine⟨_,rfl,_,rfl,_,rfl,b,_,rfl,.inl (st1.1.seq hB),_,_,rfl,rfl,(by rw[aR];omega),b,_,_,_,rfl,rfl,st1.1.seq hB,hix,(by show 1<=sizeLine;omega),fun p2 hp2=>?_⟩;have u2:=aE (o:=.lst [T wr]) hp2;refine⟨p1,p2,_,_,rfl,rfl,SqL.of (u2 p1 _ aB),SqL.of aB,(by rw[aR];have:=(fL (us:=us) (lo:=none) (hi:=some (j:Int))).length_le;show _+1<=sizeLine;omega),fun p3 hp3=>?_⟩;have u3:=aE (o:=.lst ((dR us none (some (j:Int))).map T++[T wr])) hp3;have st3:=mono st1 (u2.trans u3);refine⟨_,rfl,_,rfl,_,_,rfl,rfl,_,rfl,a,_,rfl,sA st3,fun p4 hp4=>?_⟩;rw[iV];have u4:=aE (o:=.lst ((dR us (some ((j:Int)+1)) none).map T)) hp4;refine⟨p3,p4,_,_,rfl,rfl,SqL.of (u4 p3 _ aB),SqL.of aB,(by rw[ag,aR,aR];have:=(fL (us:=us) (lo:=none) (hi:=some (j:Int))).length_le;have:=(fL (us:=us) (lo:=some ((j:Int)+1)) (hi:=none)).length_le;show _+1+_<=sizeLine;omega),fun p5 hp5=>?_⟩;have u5:=aE (o:=.lst ((dR us none (some (j:Int))).map T++[T wr]++(dR us (some ((j:Int)+1)) none).map T)) hp5;have st5:=mono st3 (u4.trans u5);refine⟨S,_,_,rfl,rfl,st5.2.1,(by show 5<sizeLine;omega),?_⟩;have st6:=app st5 (m:=p5) (vs:=dR us none (some (j:Int))++[wr]++dR us (some ((j:Int)+1)) none) (by rw[aB,ax,ax];rfl) (fun z=>by rw[z,u4 S _ st3.2.1] at hp5;cases hp5) (((hU.cut (af _)).app (Gd.one hwg) (af _)).app (hU.cut (af _)) (by decide));generalize upd _ S _=G6 at st6;clear st5 st3 st1 st0 u1 u2 u3 u4 u5 hp1 hp2 hp3 hp4 hp5;have hsl1:=(fL (us:=us) (lo:=none) (hi:=some (j:Int))).length_le;have hsl2:=(fL (us:=us) (lo:=some ((j:Int)+1)) (hi:=none)).length_le;refine⟨_,rfl,.inl ⟨rfl,_,SqL.of st6.2.1⟩,?_⟩;refine⟨_,rfl,_,rfl,_,rfl,a,_,rfl,sA st6,fun p1 hp1=>?_⟩;rw[iV];have u1:=aE (o:=.lst ((dR us none (some (j:Int))).map T)) hp1;have st1:=mono st6 u1;have hju:atI (us.map T) (j:Int)=some (T ur):=cQ (by rw[aj,hur];rfl);have hcb:fX ur none (some (-(1:Int)))=beg ur:=kN hug.1;have hbl:(beg ur).length=ur.length-1:=by show (ur.take (ur.length-1)).length=_;rw[a8];omega
  refine⟨_,rfl,_,rfl,a,_,_,_,rfl,rfl,sA st1,hju,_,rfl,_,rfl,_,rfl,(by omega),?_⟩;rw[hcb];refine⟨_,rfl,_,rfl,(by show _+1<=sizeLine;omega),(by show 1<=sizeLine;omega),fun p2 hp2=>?_⟩;have u2:=aE (o:=.lst [T (beg ur++[102])]) hp2;refine⟨p1,p2,_,_,rfl,rfl,SqL.of (u2 p1 _ aB),SqL.of aB,(by rw[aR];show _+1<=sizeLine;omega),fun p3 hp3=>?_⟩;have u3:=aE (o:=.lst ((dR us none (some (j:Int))).map T++[T (beg ur++[102])])) hp3;have st3:=mono st1 (u2.trans u3);refine⟨_,rfl,_,rfl,_,_,rfl,rfl,_,rfl,a,_,rfl,sA st3,fun p4 hp4=>?_⟩;rw[iV];have u4:=aE (o:=.lst ((dR us (some ((j:Int)+1)) none).map T)) hp4;refine⟨p3,p4,_,_,rfl,rfl,SqL.of (u4 p3 _ aB),SqL.of aB,(by rw[ag,aR,aR];show _+1+_<=sizeLine;omega),fun p5 hp5=>?_⟩;have u5:=aE (o:=.lst ((dR us none (some (j:Int))).map T++[T (beg ur++[102])]++(dR us (some ((j:Int)+1)) none).map T)) hp5;have st5:=mono st3 (u4.trans u5);refine⟨S,_,_,rfl,rfl,st5.2.1,(by show 6<sizeLine;omega),?_⟩;have st7:=app st5 (m:=p5) (vs:=dR us none (some (j:Int))++[beg ur++[102]]++dR us (some ((j:Int)+1)) none) (by rw[aB,ax,ax];rfl) (fun z=>by rw[z,u4 S _ st3.2.1] at hp5;cases hp5) (((hU.cut (af _)).app (Gd.one (by rw[ag];show 1<=_+1∧_+1<=1000;omega)) (af _)).app (hU.cut (af _)) (by decide));generalize upd _ S _=G7 at st7;clear st5 st3 st1 st6 u1 u2 u3 u4 u5 hp1 hp2 hp3 hp4 hp5;refine⟨_,rfl,.inl ⟨rfl,_,SqL.of st7.2.1⟩,?_⟩;refine⟨_,rfl,_,rfl,_,rfl,a,_,rfl,sA st7,fun p1 hp1=>?_⟩;rw[iV];have u1:=aE (o:=.lst ((dR us none (some (j:Int))).map T)) hp1;have st1:=mono st7 u1;refine⟨_,rfl,_,rfl,_,rfl,_,rfl,_,_,rfl,rfl,_,rfl,a,_,rfl,sA st1,fun p2 hp2=>?_⟩;rw[iV];have u2:=aE (o:=.lst ((dR us (some (j:Int)) (some ((j:Int)+1))).map T)) hp2;have hsl3:=(fL (us:=us) (lo:=some (j:Int)) (hi:=some ((j:Int)+1))).length_le;have hsl4:=(fL (us:=us) (lo:=some (j:Int)) (hi:=none)).length_le;refine⟨p1,p2,_,_,rfl,rfl,SqL.of (u2 p1 _ aB),SqL.of aB,(by rw[aR,aR];omega),fun p3 hp3=>?_⟩;have u3:=aE (o:=.lst ((dR us none (some (j:Int))).map T++(dR us (some (j:Int)) (some ((j:Int)+1))).map T)) hp3;have st3:=mono st1 (u2.trans u3);refine⟨_,rfl,_,rfl,_,rfl,a,_,rfl,sA st3,fun p4 hp4=>?_⟩;rw[iV];have u4:=aE (o:=.lst ((dR us (some (j:Int)) none).map T)) hp4;refine⟨p3,p4,_,_,rfl,rfl,SqL.of (u4 p3 _ aB),SqL.of aB,(by rw[ag,aR,aR,aR];omega),fun p5 hp5=>?_⟩;have u5:=aE (o:=.lst ((dR us none (some (j:Int))).map T++(dR us (some (j:Int)) (some ((j:Int)+1))).map T++(dR us (some (j:Int)) none).map T)) hp5;have st5:=mono st3 (u4.trans u5);refine⟨S,_,_,rfl,rfl,st5.2.1,(by show 7<sizeLine;omega),?_⟩;have st8:=app st5 (m:=p5) (vs:=dR us none (some (j:Int))++dR us (some (j:Int)) (some ((j:Int)+1))++dR us (some (j:Int)) none) (by rw[aB,ax,ax]) (fun z=>by rw[z,u4 S _ st3.2.1] at hp5;cases hp5) (((hU.cut (af _)).app (hU.cut (af _)) (af _)).app (hU.cut (af _)) (by decide));generalize upd _ S _=G8 at st8;exact⟨_,rfl,q S _ G8 st8.1 st8.2.1 fun r hr=>(st8.2.2 r hr).2⟩
theorem Ob {a b:List (List Nat)}(h:a.map T=b.map T):a=b:=by
 have z:=congrArg (List.map unT) h;rw[bf,bf,show unT∘T=id from funext dP,g9,g9] at z;exact z
def Tr4 (ms:List (List Nat))(p:List Nat)(ts:List (List Nat)):Prop:=IsP ms p∧lR ms p ts∧Dt.nC ts (dF ms)<=500∧(∀ i,(Dt.iU (dF ms) (ts.take i)).length<=100000)∧ts.length<=62∧∀ t,(dF ms t).Pairwise (· < ·)
theorem Mr {ms ts us:List (List Nat)}{n:Nat}(hok:gT ms n)(hn:ts.Nodup)(hl:ts.length<=62)(h:us∈Dt.trs ts ts (dF ms)):Gd 62 us:=by
 obtain⟨h1,h2,_⟩:=(oX hn).mp h;refine⟨?_,fun y hy=>by have:=(hok.2.2.2.1 y (h2 y hy)).1;have:=hok.2.2.1.1;omega⟩;rw[<- aR (f:=Wd.beg),h1];exact hl
def Jf (K:ac)(C:Addr):Sp:=fun vs H Q _=>∃ (x tp d:Addr) (n:Nat) (ms:List (List Nat)) (p:List Nat) (ts:List (List Nat)) (ds:List Addr),vs=[.ref x,T p,.ref d]∧jO C H x tp n ms∧gT ms n∧Tr4 ms p ts∧SqL K H d (ds.map V.ref)∧LLs K H (Dt.trs ts ts (dF ms)) ds∧∀ H',aM H H'->Q (.bl true) H'
theorem uI {f:Addr}{fd:FuncData}(F:Fun K "_law_told" "_law_told" jN f fd)(tt:Txt K mg ad)(C_trees:Cal P w K mg base (CX1 P w) "trees" 5 ["web", "piece"] (Az K ad.Web ad))(C_is_tree:Cal P w K mg base (CX1 P w) "is_tree" 4 ["web", "piece", "tree"] (mE K ad.Web ad)) :
  cN P w K mg base (CX1 P w) 6 f fd ["web", "piece", "due"] (Jf K ad.Web):=by
 refine F.okN jA (fun vs H Q E h=>?_) (fun cdv A outer s H vs Q E hr h=>?_)
 ·obtain⟨x,tp,d,n,ms,p,ts,ds,rfl,_⟩:=h
  rfl
 ·obtain⟨x,tp,d,n,ms,p,ts,ds,rfl,hW,hok,⟨hip,hts,hc5,hfew,htl,hasc⟩,hd,hds,q⟩:=h
  have hs:sizeLine=16777216:=sizeLine_eq;have hu1:=eC hr;have htn:=hts.nd;refine⟨_,(aC (aJ (i:=3) jA.nd rfl (Or.inl rfl) (aU C_trees hr bQ (aA (pv 0) (aA (pv 1) aD))))
   (aC (bU (PW.pt (sJ (mX (lN (aN kH (by rfl) tt.b_isinstance i0 (aA (pv 3) (aA (uQ (v:=.ty "list") (u:=.type "list") (by rfl) tt.b_list (by decide +kernel) rfl) aD))))) (nG (aO (Ec hu1) (pv 3) (pv 2) (aY _))))) (aF (bA fK)) aV)
   (aC (bZ PassesOwn.never rfl (bL (pv 3)) (bG (i:=4) jA.nd rfl (Or.inl rfl)) (aC (bU (PW.pt (sJ (mX (lN (aN kH (by rfl) tt.b_isinstance i0 (aA (pv 4) (aA (uQ (v:=.ty "list") (u:=.type "list") (by rfl) tt.b_list (by decide +kernel) rfl) aD))))) (nG (aO Al (aU C_is_tree hr bQ (aA (pv 0) (aA (pv 1) (aA (pv 4) aD)))) fK (aY _))))) (aF (bA fK)) aV)
   (aC (bU (aO Al (aU C_is_tree hr bQ (aA (pv 0) (aA (pv 1) (aA (dH lG (by rfl) tt.b_tuple (by decide +kernel) (aA (pv 4) aD)) aD)))) fK (aY _)) (aF (bA fK)) aV)
   (aF (cW (iC bz cq cr cL (pv 4) (aA (bW [97] (by decide +kernel)) aD)))))))
   (aC (cW (iC bz cq cr cL (pv 3) (aA (bT (aA (bW [98] (by decide +kernel)) aD)) aD)))
   (aF (bA fK)))))),?_⟩
  (try rw[dS]);(try rw[cxK1])
  refine⟨_,rfl,_,rfl,x,tp,n,ms,p,rfl,hW,hok,fun z=>absurd hip z,fun _ ts' hts'=>⟨fun z=>?_,fun _=>⟨?_,fun D bs H1 s1 hD hd1 hR1=>?_⟩⟩⟩
  ·rw[hts.uniq hts'] at z
   omega
  ·rw[hts.uniq hts']
   exact hfew
  rw[hts.uniq hts'] at hR1;have hlt:(Dt.trs ts ts (dF ms)).Pairwise (· < ·):=Dt.zC htn fun t _=>hasc t
  have hgd:∀ us∈Dt.trs ts ts (dF ms),Gd 62 us:=fun us hu=>Mr hok htn htl hu
  have hlen:(Dt.trs ts ts (dF ms)).length<=500:=by rw[Dt.pO htn (fun t h=>h) uL];exact hc5
  generalize hU:Dt.trs ts ts (dF ms)=U at hR1 hds hlt hgd hlen;have hbl:=hR1.len;refine⟨_,rfl,_,_,_,_,rfl,.lst hd1,pZ _,_,rfl,?_⟩;refine nK ?_;refine⟨_,rfl,_,rfl,D,d,U,bs,ds,rfl,rfl,SqL.of hd1,s1.seq hd,hR1.mono fun a' b' _ r=>SqL.of r.2,hds.mono fun a' b' _ r=>s1.seq r,_,rfl,?_⟩;refine nK ?_;refine⟨_,rfl,D,rfl,⟨_,SqL.of hd1⟩,?_⟩;have hbn:∀ (i j:Nat) (hi:i<bs.length) (hj:j<bs.length),i<j->bs[i]≠bs[j]:=fun i j hi hj hij e=>by
   obtain⟨u1,e1,_,r1⟩:=hR1.get (aa hi);obtain⟨u2,e2,_,r2⟩:=hR1.get (aa hj);rw[e,r2] at r1;have h1:=Ob (HO.lst.inj (a5 r1));obtain⟨g1,g2⟩:=al.mp e1;obtain⟨g3,g4⟩:=al.mp e2;have h2:=fq.mp hlt i j g1 g3 hij;rw[g2,g4,h1] at h2;exact fo _ h2
  have hbD:∀ b∈bs,b≠D:=fun b hb e=>by
   obtain⟨i,hi,rfl⟩:=ia.mp hb;obtain⟨u1,e1,_,r1⟩:=hR1.get (aa hi);rw[e,hd1] at r1;have h1:bs.map V.ref=u1.map T:=HO.lst.inj (a5 r1)
   cases bs with
   | nil=>cases hb
   | cons b bs=>cases u1 with
    | nil=>cases h1
    | cons u u1=>exact nomatch (jl h1).1
  refine cD (K:=K) (a:=D) (xs:=bs.map V.ref) (fun i σ G=>aM H G∧G D=some (.lst (bs.map V.ref))∧(∀ (j:Nat) (hj:j<bs.length),i<=j->G bs[j]=H1 bs[j])∧∃ v4:Option V,σ=[some (.ref x),some (T p),some (.ref d),some (.ref D),v4])
   ⟨s1,hd1,fun _ _ _=>rfl,none,rfl⟩ (fun i σ G _ h=>SqL.of h.2.1) ?_ ?_
  ·rintro i y σ G hi ⟨sG,hdG,hkG,v4,rfl⟩
   obtain⟨b,hbi,rfl⟩:∃ b,bs[i]?=some b∧V.ref b=y:=by rw[aj] at hi;exact ba.mp hi
   obtain⟨hil,rfl⟩:=al.mp hbi;obtain⟨us,hui,hbH,hb1⟩:=hR1.get hbi;have hbG:G bs[i]=some (.lst (us.map T)):=by rw[hkG i hil (af _)];exact hb1
   have hum:us∈Dt.trs ts ts (dF ms):=hU▸az hui;have hug:=hgd us (az hui);have hugd:us.length<=1000∧∀ y∈us,1<=y.length∧y.length<=1000:=⟨by have:=hug.1;omega,hug.2⟩;refine⟨_,rfl,_,_,_,_,rfl,.lst hbG,pZ _,_,rfl,?_⟩;refine nK ?_;refine⟨_,rfl,_,rfl,_,rfl,x,tp,n,ms,p,bs[i],us,rfl,hW.on sG,hok,.inl (SqL.of hbG),hugd,fun z=>absurd hip z,fun _ ts2 b2 G2 hts2 s2 hb2=>?_⟩;rw[hts.uniq hts2] at hb2;obtain rfl:b2=true:=hb2.mpr hum;refine⟨_,rfl,_,rfl,_,rfl,?_⟩;refine nK ?_;have hbG2:=s2 _ _ hbG;refine⟨_,rfl,_,rfl,_,rfl,bs[i],_,rfl,.inl ⟨SqL.of hbG2,fun t6 ht6=>?_⟩⟩;have u6:=aE (o:=.tup (us.map T)) ht6;refine⟨x,tp,n,ms,p,t6,us,rfl,hW.on (sG.trans (s2.trans u6)),hok,.inr (SqT.of aB),hugd,fun z=>absurd hip z,fun _ ts3 b3 G3 hts3 s3 hb3=>?_⟩;rw[hts.uniq hts3] at hb3;obtain rfl:b3=true:=hb3.mpr hum;refine⟨_,rfl,_,rfl,_,rfl,?_⟩;refine nK ?_;have s23:=s2.trans (u6.trans s3);have hbG3:=s23 _ _ hbG;refine⟨_,rfl,.inl ⟨rfl,_,SqL.of hbG3⟩,bs[i],_,_,rfl,rfl,hbG3,(by rw[aR];have:=hug.1;omega),?_⟩;refine⟨fun b' o' e'=>by rw[aH (aK e' hbH)];exact s23 b' o' (sG b' o' e'),?_,fun j hj hij=>?_,_,rfl⟩
   ·rw[aH (hbD _ (b6 hil)).symm]
    exact s23 D _ hdG
   ·rw[aH (hbn i j hil hj hij).symm]
    obtain⟨u2,e2,_,r2⟩:=hR1.get (aa hj);rw[r2];exact s23 _ _ (by rw[hkG j hj (by omega)];exact r2)
  ·rintro σ G ⟨sG,hdG,hkG,v4,rfl⟩
   refine⟨_,rfl,.inl ⟨rfl,_,SqL.of hdG⟩,(by show 1<=sizeLine;omega),fun e he=>?_⟩;have ue:=aE (o:=.lst [T [98]]) he;refine⟨D,_,_,rfl,rfl,ue D _ hdG,(by rw[aR];omega),?_⟩;exact q _ fun b' o' e'=>by rw[aH (aK e' hD)];exact ue b' o' (sG b' o' e')
theorem Ga {xs:List V}{lo hi:Option Int}{v:V}(h:v∈cP xs lo hi):v∈xs:=lc (lf h)
theorem Ig {xs:List V}{lo hi:Option Int}:(cP xs lo hi).length<=xs.length:=by
 unfold cP;rw[a8,bn];omega
def yE (K:ac)(C:Addr):Sp:=fun vs H Q _=>∃ (x tp b d:Addr) (n:Nat) (ms ws:List (List Nat)) (p:List Nat) (ts:List (List Nat)) (ds:List Addr) (c:Int),vs=[.ref x,.ref b,T p,.ref d,.int c]∧jO C H x tp n ms∧gT ms n∧Tr4 ms p ts∧(SqL K H b (ws.map T)∧Gd 100 ws∧ws≠[])∧SqL K H d (ds.map V.ref)∧LLs K H (Dt.trs ts ts (dF ms)) ds∧∀ H',aM H H'->Q (.bl true) H'
theorem pR {f:Addr}{fd:FuncData}(F:Fun K "_law_judged" "_law_judged" gU f fd)(tt:Txt K mg ad)(C__law_strange:Cal P w K mg base (CX1 P w) "_law_strange" 1 ["tree", "words", "cell"] (sK K))(C_is_tree:Cal P w K mg base (CX1 P w) "is_tree" 4 ["web", "piece", "tree"] (mE K ad.Web ad)) :
  cN P w K mg base (CX1 P w) 5 f fd ["web", "words", "piece", "due", "cell"] (yE K ad.Web):=by
 refine F.okN eU (fun vs H Q E h=>?_) (fun cdv A outer s H vs Q E hr h=>?_)
 ·obtain⟨x,tp,b,d,n,ms,ws,p,ts,ds,c,rfl,_⟩:=h
  rfl
 ·obtain⟨x,tp,b,d,n,ms,ws,p,ts,ds,c,rfl,hW,hok,⟨hip,hts,hc5,hfew,htl,hasc⟩,⟨hB,hwg,hwn⟩,hd,hds,q⟩:=h
  have hs:sizeLine=16777216:=sizeLine_eq;have hu1:=eC hr;have htn:=hts.nd;have hgd:∀ us∈Dt.trs ts ts (dF ms),Gd 62 us:=fun us hu=>Mr hok htn htl hu
  have hlen:(Dt.trs ts ts (dF ms)).length<=500:=by rw[Dt.pO htn (fun t h=>h) uL];exact hc5
  have hbl:=hds.len;have hdl:(ds.map V.ref).length<=500:=by rw[aR];omega
  have hcl:=Ig (xs:=ds.map V.ref) (lo:=none) (hi:=some 6);have hcm:=fun v=>Ga (xs:=ds.map V.ref) (lo:=none) (hi:=some 6) (v:=v)
  refine⟨_,(aC (bZ PassesOwn.never rfl (bL (aL cY (aS cC (pv 3) bD (aX aG)) (bT (aA (bT aD) aD)))) (bG (i:=5) eU.nd rfl (Or.inl rfl)) (aF (bZ PassesOwn.never rfl (bL (aU C__law_strange hr bQ (aA (pv 5) (aA (pv 1) (aA (pv 4) aD))))) (bG (i:=6) eU.nd rfl (Or.inl rfl)) (aC (aJ (i:=7) eU.nd rfl (Or.inl rfl) (aU C_is_tree hr bQ (aA (pv 0) (aA (pv 2) (aA (pv 6) aD)))))
   (aF (bU (PW.pt (sJ (mX (lN (aN kH (by rfl) tt.b_isinstance i0 (aA (pv 7) (aA (uQ (v:=.ty "bool") (u:=.type "bool") (by rfl) tt.b_bool (by decide +kernel) rfl) aD))))) (nG (aO Bm (pv 7) (pC (sO hu1) (pv 6) (pv 3) (by with_unfolding_all rfl)) (aY _))))) (aF (bA fK)) aV))))))
   (aF (bA fK))),?_⟩
  (try rw[dS]);(try rw[cxK1])
  refine⟨_,rfl,_,rfl,d,_,rfl,hd,fun p1 hp1=>?_⟩;have t1:=aE (o:=.lst (cP (ds.map V.ref) none (some 6))) hp1;refine⟨(by show 0<=sizeLine;omega),fun p2 hp2=>?_⟩;have t2:=aE (o:=.lst []) hp2;refine⟨(by show 1<=sizeLine;omega),fun p3 hp3=>?_⟩;have t3:=aE (o:=.lst [V.ref p2]) hp3;refine⟨p1,p3,_,_,rfl,rfl,SqL.of ((t2.trans t3) p1 _ aB),SqL.of aB,(by show _+1<=sizeLine;omega),fun p4 hp4=>?_⟩;have t4:=aE (o:=.lst (cP (ds.map V.ref) none (some 6)++[V.ref p2])) hp4;have t14:=t1.trans (t2.trans (t3.trans t4));have hall:∀ v∈cP (ds.map V.ref) none (some 6)++[V.ref p2],∃ (r:Addr) (us:List (List Nat)),v = .ref r∧SqL K (upd (upd (upd (upd H p1 (.lst (cP (ds.map V.ref) none (some 6)))) p2 (.lst [])) p3 (.lst [V.ref p2])) p4 (.lst (cP (ds.map V.ref) none (some 6)++[V.ref p2]))) r (us.map T)∧Gd 100 us:=fun v hv=>by
   rcases a6.mp hv with hv | hv
   ·obtain⟨r,hr1,rfl⟩:=ar.mp (hcm v hv)
    obtain⟨i,hi,rfl⟩:=ia.mp hr1;obtain⟨us,e1,r1⟩:=hds.get (aa hi);have z:=hgd us (az e1);exact⟨_,us,rfl,t14.seq r1,by have:=z.1;omega,z.2⟩
   ·rw[aq.mp hv]
    exact⟨p2,[],rfl,SqL.of ((t3.trans t4) p2 _ aB),bi _,fun y hy=>nomatch hy⟩
  have hp44:upd (upd (upd (upd H p1 (.lst (cP (ds.map V.ref) none (some 6)))) p2 (.lst [])) p3 (.lst [V.ref p2])) p4 (.lst (cP (ds.map V.ref) none (some 6)++[V.ref p2])) p4=some (.lst (cP (ds.map V.ref) none (some 6)++[V.ref p2])):=aB;generalize upd (upd (upd (upd H p1 (.lst (cP (ds.map V.ref) none (some 6)))) p2 (.lst [])) p3 (.lst [V.ref p2])) p4 (.lst (cP (ds.map V.ref) none (some 6)++[V.ref p2]))=H4 at t14 hall hp44;refine⟨p4,rfl,⟨_,SqL.of hp44⟩,?_⟩;refine cD (K:=K) (a:=p4) (xs:=cP (ds.map V.ref) none (some 6)++[V.ref p2]) (fun i σ G=>aM H4 G∧∃ v5 v6 v7:Option V,σ=[some (.ref x),some (.ref b),some (T p),some (.ref d),some (.int c),v5,v6,v7])
   ⟨aM.refl _,none,none,none,rfl⟩ (fun i σ G _ h=>SqL.of (h.1 p4 _ hp44)) ?_ ?_
  ·rintro i y σ G hi ⟨sG,v5,v6,v7,rfl⟩
   obtain⟨r,us,rfl,hrS,hrG⟩:=hall y (az hi);have s4G:=t14.trans sG;refine⟨_,rfl,_,rfl,_,rfl,r,b,us,ws,c,rfl,sG.seq hrS,s4G.seq hB,hrG,hwg,hwn,fun D2 bs2 G2 s2 hd2 hall2=>?_⟩;refine⟨D2,rfl,⟨_,SqL.of hd2⟩,?_⟩;refine cD (K:=K) (a:=D2) (xs:=bs2.map V.ref) (fun j σ G3=>aM G2 G3∧∃ v6 v7:Option V,σ=[some (.ref x),some (.ref b),some (T p),some (.ref d),some (.int c),some (.ref r),v6,v7])
    ⟨aM.refl _,v6,v7,rfl⟩ (fun j σ G3 _ h=>SqL.of (h.1 D2 _ hd2)) ?_ ?_
   ·rintro j y σ G3 hj ⟨s3,v6,v7,rfl⟩
    obtain⟨o,hoj,rfl⟩:∃ o,bs2[j]?=some o∧V.ref o=y:=by rw[aj] at hj;exact ba.mp hj
    obtain⟨vs,hvo,hvg⟩:=hall2 o (az hoj);have s43:=s4G.trans (s2.trans s3);refine⟨_,rfl,_,rfl,_,rfl,x,tp,n,ms,p,o,vs,rfl,hW.on s43,hok,.inl (SqL.of (s3 o _ hvo)),hvg,fun z=>absurd hip z,fun _ ts4 b4 G4 hts4 s4 hb4=>?_⟩;rw[hts.uniq hts4] at hb4;refine⟨_,rfl,_,_,_,_,rfl,.bl _,pZ _,_,rfl,?_⟩;refine nK ?_;have s44:=s43.trans s4;refine⟨_,rfl,_,rfl,_,rfl,o,d,vs,_,ds,rfl,rfl,SqL.of (s4 o _ (s3 o _ hvo)),s44.seq hd,hds.mono fun a' b' _ r=>s44.seq r,_,rfl,_,rfl,_,rfl,?_⟩;refine itN (by rw[decide_eq_true (ci.mpr (hb4.trans decide_eq_true_iff.symm))];exact ak) ?_;exact⟨s3.trans s4,_,_,rfl⟩
   ·rintro σ G3 ⟨s3,v6,v7,rfl⟩
    exact⟨sG.trans (s2.trans s3),_,_,_,rfl⟩
  ·rintro σ G ⟨sG,v5,v6,v7,rfl⟩
   exact q G (t14.trans sG)
theorem qS.perm {k:Nat}{ls ms:List (List Nat)}(h:qS k ls)(p:ms.Perm ls):qS k ms:=h.sub fun w hw=>p.mem_iff.mp hw
theorem gT.perm {ls ms:List (List Nat)}{n:Nat}(h:gT ls n)(p:ms.Perm ls):gT ms n:=⟨fun z=>h.1 (cj.mp (by rw[<- p.length_eq,z];rfl)),by rw[p.length_eq];exact h.2.1,⟨h.2.2.1.1,h.2.2.1.2.perm p⟩,fun x hx=>h.2.2.2.1 x (p.mem_iff.mp hx),p.nodup_iff.mpr h.2.2.2.2⟩
theorem IsP.perm {ls ms:List (List Nat)}(p:ms.Perm ls)(z:List Nat):IsP ms z↔IsP ls z:=⟨fun ⟨w,h1,h2⟩=>⟨w,p.mem_iff.mp h1,h2⟩,fun ⟨w,h1,h2⟩=>⟨w,p.mem_iff.mpr h1,h2⟩⟩
theorem Jo {ls:List (List Nat)}{f:List Nat->List Nat}{t:List Nat}:∀ k,itT ls f k t=Dt.iT ls f k t
 | 0=>rfl
 | k+1=>by show stT ls f (itT ls f k t)=Dt.sT ls f (Dt.iT ls f k t);rw[Jo k];rfl
theorem Dj {ls:List (List Nat)}{f:List Nat->List Nat}:eE ls f=Dt.cmT ls f:=by
 unfold eE Dt.cmT
 congr 1
 funext t
 rw[Jo]
theorem Nu {α β γ:Type}{R:α->β->Prop}{S:γ->β->Prop}{as:List α}{bs:List β}(h:Dt.R2 R as bs)(f:α->γ)(e:∀ a b,R a b->S (f a) b):Dt.R2 S (as.map f) bs:=by
 induction h with
 | nil=>exact .nil
 | cons r _ ih=>exact .cons (e _ _ r) ih
theorem Nz {ms so:List (List Nat)}{p:List Nat}(hip:IsP ms p)(hts:lR ms p so)(hl:ms.length<=14)(hasc:∀ t,(dF ms t).Pairwise (· < ·)):Tr4 ms p so:=by
 have hn:=hts.nd;have key:∀ {r:List (List Nat)},r.Nodup->(Dt.iU (dF ms) r).length<=168:=fun hr=>Dt.Gj hr (a7 (Dt.Gz hr) hl)
 refine⟨hip,hts,?_,fun i=>a7 (key (hn.sublist (fh i so))) (by decide),by have:=hts.len60 (by omega);omega,hasc⟩;rw[<- Dt.pO hn (fun t h=>h) uL,Dt.oV hn fun t _ w hw=>(kM hw).2];exact a7 (b8 ..) (a7 (key hn) (by decide))
theorem On {ms so:List (List Nat)}{g:List Nat->List (List Nat)}(hn:so.Nodup)(hg:∀ t∈so,g t=dF ms t):((Dt.chs g so.reverse).filter (eE so)).map (fun f=>so.map f)=Dt.trs so so (dF ms):=by
 rw[Dt.nE (g':=dF ms) fun t ht=>hg t (ko.mp ht),<- Dt.Ll hn fun t _ w hw=>(kM hw).2]
 congr 2
 funext f
 exact Dj
def Ax (K:ac):Sp:=fun vs H Q _=>∃ (a:Addr) (ns:List Int),vs=[.ref a]∧SqL K H a (ns.map V.int)∧ns.length<=63∧∀ H',Q (.bl true) H'
theorem Pz {f:Addr}{fd:FuncData}(F:Fun K "law" "law" jE f fd)(tt:Txt K mg ad)(C__law_some_words:Cal P w K mg base (CX1 P w) "_law_some_words" 3 ["script", "at", "most"] (Ak K))(C_Web_init:Cam P w K mg base (CX1 P w) "Web" ad.Web 5 ["self", "words"] (zP K ad.Web))(C__law_cell_at:Cal P w K mg base (CX1 P w) "_law_cell_at" 1 ["script", "k"] (uF K))(C__law_ways:Cal P w K mg base (CX1 P w) "_law_ways" 1 ["words", "piece"] (Av K))(C__law_all_choices:Cal P w K mg base (CX1 P w) "_law_all_choices" 2 ["ways"] Iy)
  (C__law_told:Cal P w K mg base (CX1 P w) "_law_told" 6 ["web", "piece", "due"] (Jf K ad.Web)) (C__law_judged:Cal P w K mg base (CX1 P w) "_law_judged" 5 ["web", "words", "piece", "due", "cell"] (yE K ad.Web)) (C_is_tree:Cal P w K mg base (CX1 P w) "is_tree" 4 ["web", "piece", "tree"] (mE K ad.Web ad)) :
  cN P w K mg base (CX1 P w) 7 f fd ["script"] (Ax K):=by
 refine F.okN jV (fun vs H Q E h=>?_) (fun cdv A outer s H vs Q E hr h=>?_)
 ·obtain⟨a,ns,rfl,_⟩:=h
  rfl
 ·obtain⟨a,ns,rfl,hS,hlen,q⟩:=h
  have hs:sizeLine=16777216:=sizeLine_eq;have hu1:=eC hr;have hu2:_+2<cLine:=d7 (jk (by decide:2<=64) _) hr.units;refine⟨_,(aC (aJ (i:=1) jV.nd rfl (Or.inl rfl) (aU C__law_some_words hr bQ (aA (pv 0) (aA aG (aA aG aD)))))
   (aC (aJ (i:=2) jV.nd rfl (Or.inl rfl) (Pw C_Web_init hr bQ (aA (pv 1) aD)))
   (aC (aJ (i:=3) jV.nd rfl (Or.inl rfl) (aN (lE rfl) (by rfl) tt.b_sorted dt (aA (dH (nF rfl) (by rfl) tt.b_set (by decide +kernel) (aA (aL cY (dU Fz rfl (bL (pv 1)) (fun cl C s' H' fp=>(aS lA (pv 0) bD (aX (kD gI aG))))) (dU Jw rfl (bL (pv 1)) (fun cl C s' H' fp=>(aS lA (pv 0) (aX aG) bD)))) aD)) aD)))
   (aC (bZ PassesOwn.never rfl (gB (by rfl) tt.b_range (aA (aN aP (by rfl) tt.b_len bc (aA (pv 3) aD)) aD)) (bG (i:=4) jV.nd rfl (Or.inl rfl)) (aC (aJ (i:=5) jV.nd rfl (Or.inl rfl) (aN (rV hu2) (by rfl) tt.b_sorted dt (aA (aU C__law_all_choices hr bQ (aA (aU C__law_ways hr bQ (aA (pv 1) (aA (dC bX (pv 3) (pv 4) (fun _ _=>rfl)) aD))) aD)) aD)))
   (aC (bU (PW.pt (sJ (mX (lN (aU C__law_told hr bQ (aA (pv 2) (aA (dC bX (pv 3) (pv 4) (fun _ _=>rfl)) (aA (pv 5) aD)))))) (nG (mX (lN (aU C__law_told hr bQ (aA (pv 2) (aA (dC bX (pv 3) (pv 4) (fun _ _=>rfl)) (aA (pv 5) aD))))))))) (aF (bA fK)) aV)
   (aC (bU (mX (lN (aU C__law_judged hr bQ (aA (pv 2) (aA (pv 1) (aA (dC bX (pv 3) (pv 4) (fun _ _=>rfl)) (aA (pv 5) (aA (aL cK (aU C__law_cell_at hr bQ (aA (pv 0) (aA (pv 4) aD))) (aL Fb aG aG)) aD)))))))) (aF (bA fK)) aV)
   (aC (aJ (i:=6) jV.nd rfl (Or.inr rfl) (aU C__law_ways hr bQ (aA (pv 1) (aA (dC bX (pv 3) (pv 4) (fun _ _=>rfl)) aD))))
   (aC (jQ (i:=7) Hl rfl (bL (aN (gX rfl) (by rfl) tt.b_sorted dt (aA (pv 6) aD))) (fun cl C s' H' fp=>(aO kB (aN (pT K rfl) (by rfl) tt.b_len bc (aA (gS (eC hr) (pv 7) (pv 0) (fun _ _=>rfl)) aD)) aG (aY _))) (fun cl C s' H' fp=>(dC (tI K rfl) (gS (eC hr) (pv 7) (pv 0) (fun _ _=>rfl)) aG (fun _ _=>rfl))) jV.nd rfl rfl)
   (aF (bU (aO Bm (aU C_is_tree hr bQ (aA (pv 2) (aA (dC bX (pv 3) (pv 4) (fun _ _=>rfl)) (aA (pv 7) aD)))) (pC (sO hu1) (pv 7) (pv 5) (by with_unfolding_all rfl)) (aY _)) (aF (bA fK)) aV))))))))
   (aF (bA fK)))))),?_⟩
  (try rw[dS]);(try rw[cxK1])
  refine⟨_,rfl,a,ns,rfl,hS,fun D ls n H1 s1 hd hwl hn hne hll=>?_⟩;have hok:gT ls n:=⟨hne,by omega,⟨⟨by omega,by omega⟩,qS.len (by omega)⟩,hwl.1,hwl.2⟩;refine⟨_,rfl,?_⟩;intro x dx nx ndx nex;have s2:aM H1 (upd (upd H1 dx (.own x)) x (.ins ad.Web dx [])):=fun b o e=>by
   rw[aH (aK e nx),aH (aK e ndx)];exact e
  refine⟨x,dx,D,ls,n,rfl,aB,SqL.of (s2 D _ hd),hok,fun tp ms H2 hp2 hw2 k2 hx2 ht2=>⟨rfl,?_⟩⟩;have s2:aM H1 H2:=fun b o e=>k2 b o (s2 b o e) (aK e nx)
  have hW:jO ad.Web H2 x tp n ms:=⟨⟨dx,hx2⟩,ht2⟩;have hokm:=hok.perm hp2;have hd2:=s2 D _ hd;have hmsn:=hokm.2.2.2.2;have hml:=hp2.length_eq;have hxl:∀ l∈ls,1<=l.length∧l.length<=1000:=fun l hl=>by have:=(hwl.1 l hl).1;omega
  have cb:∀ l∈ls,fX l none (some (-(1:Int)))=beg l:=fun l hl=>kN (hxl l hl).1
  have ce:∀ l∈ls,fX l (some 1) none=l.drop 1:=fun l hl=>hJ (k:=1) (hxl l hl).1
  refine⟨_,rfl,D,rfl,⟨_,SqL.of hd2⟩,?_⟩;refine jC (fun v=>T (beg (unT v))) (cF (SqL.of hd2)) (by rw[aR];omega) (fun v H3 hv s3 N hN=>?_) fun D1 H3 hD1 s3 hd3=>?_
  ·obtain⟨l,hl,rfl⟩:=ar.mp hv
   have hll:=hxl l hl;have z:=hN H3 (aM.refl _);rw[dP,<- cb l hl] at z;exact⟨_,rfl,_,rfl,_,rfl,_,rfl,(by omega),z⟩
  rw[fU (f:=fun l=>T (beg l)),show ls.map (fun l=>T (beg l))=(ls.map beg).map T by rw[bf];rfl] at hd3;refine⟨_,rfl,D,rfl,⟨_,SqL.of (s3 D _ hd2)⟩,?_⟩;refine jC (fun v=>T ((unT v).drop 1)) (cF (SqL.of (s3 D _ hd2))) (by rw[aR];omega) (fun v H4 hv s4 N hN=>?_) fun D2 H4 hD2 s4 hd4=>?_
  ·obtain⟨l,hl,rfl⟩:=ar.mp hv
   have hll:=hxl l hl;have z:=hN H4 (aM.refl _);rw[dP,<- ce l hl] at z;exact⟨_,rfl,_,rfl,_,rfl,(by omega),z⟩
  rw[fU (f:=fun l=>T (l.drop 1)),show ls.map (fun l=>T (l.drop 1))=(ls.map fun l=>l.drop 1).map T by rw[bf];rfl] at hd4;refine⟨D1,D2,_,_,rfl,rfl,SqL.of (s4 D1 _ hd3),SqL.of hd4,(by rw[aR,aR,aR,aR];omega),fun D3 hD3=>?_⟩;have s5:=aE (o:=.lst ((ls.map beg).map T++(ls.map fun l=>l.drop 1).map T)) hD3;refine⟨D3,ls.map beg++ls.map (fun l=>l.drop 1),rfl,SqL.of (by rw[ax];exact aB),(by rw[ag,aR,aR];omega),fun S hSn=>?_⟩;have s6:=aE (o:=kW w S (uniq (ls.map beg++ls.map fun l=>l.drop 1))) hSn;have ul:=kJ (ls.map beg++ls.map fun l=>l.drop 1) (ls.map beg++ls.map fun l=>l.drop 1).length;have ul':(uniq (ls.map beg++ls.map fun l=>l.drop 1)).length<64:=by
   refine d7 ul ?_;rw[ag,aR,aR];omega
  refine⟨S,_,rfl,aB,ul',fun ev D4 hD4 hp4 hw4=>?_⟩;have s7:=aE (o:=.lst (ev.map T)) hD4;have s27:=s3.trans (s4.trans (s5.trans (s6.trans s7)));have hevn:ev.Nodup:=hp4.nodup_iff.mpr (lK _);have hevm:∀ z,z∈ev↔IsP ms z:=fun z=>by
   rw[hp4.mem_iff,fJ,a6,ar,ar];constructor
   ·rintro (⟨l,hl,e⟩ | ⟨l,hl,e⟩)
    ·exact⟨l,hp2.mem_iff.mpr hl,.inl e.symm⟩
    ·exact⟨l,hp2.mem_iff.mpr hl,.inr e.symm⟩
   ·rintro⟨l,hl,e | e⟩
    ·exact .inl ⟨l,hp2.mem_iff.mp hl,e.symm⟩
    ·exact .inr ⟨l,hp2.mem_iff.mp hl,e.symm⟩
  have hd7:upd (upd (upd H4 D3 (.lst ((ls.map beg).map T++(ls.map fun l=>l.drop 1).map T))) S (kW w S (uniq (ls.map beg++ls.map fun l=>l.drop 1)))) D4 (.lst (ev.map T)) D4=some (.lst (ev.map T)):=aB;have hasc:∀ t,(dF ms t).Pairwise (· < ·):=fun t=>Ky hmsn hw2 t
  have hwg:Gd 100 ls:=⟨by omega,hxl⟩;refine⟨_,rfl,D4,_,rfl,.inl (SqL.of hd7),_,rfl,?_⟩;rw[aR];have hevl:ev.length<64:=by rw[hp4.length_eq];exact ul'
  refine⟨(by omega),(by omega),?_⟩;refine gA (fun k σ G=>aM H2 G∧G D4=some (.lst (ev.map T))∧∃ (v4 v5 v6 v7:Option V),σ=[some (.ref a),some (.ref D),some (.ref x),some (.ref D4),v4,v5,v6,v7]) ⟨s27,hd7,none,none,none,none,rfl⟩ ?_ ?_
  ·rintro k σ G hk ⟨sG,hdG,v4,v5,v6,v7,rfl⟩
   have hk:k<ev.length:=hk;obtain⟨p,hpk⟩:∃ p,ev[k]?=some p:=⟨_,aa hk⟩;have hip:IsP ms p:=(hevm p).mp (az hpk);have hix:atI (ev.map T) (0+(k:Int))=some (T p):=by rw[Int.zero_add];exact cQ (by rw[aj,hpk];rfl)
   have gof:∀ {ts0:List (List Nat)} {g:List Nat->List (List Nat)},ts0.Nodup->(∀ t,t∈ts0↔t≠p∧(IsP ls t∨t∈([]:List (List Nat))))->(∀ t∈ts0,(g t).Perm (ls.filter fun l=>decide (beg l=t))∧(g t).Pairwise (fun a b=>¬ b<a))->(∀ t∈ts0,g t=dF ms t)∧∀ so:List (List Nat),so.Perm ts0->so.Pairwise (fun a b=>¬ b<a)->lR ms p so:=fun {ts0 g} nd hm hg=>by
    refine⟨fun t ht=>Wd.jX ((hg t ht).1.trans ((hp2.symm.filter fun l=>decide (beg l=t)))) (hg t ht).2 (hw2.filter fun l=>decide (beg l=t)),fun so hp hw=>⟨Dt.zF (hp.nodup_iff.mpr nd) hw,fun z=>?_⟩⟩;rw[hp.mem_iff,hm,IsP.perm hp2];exact⟨fun h=>⟨h.2.resolve_right (fun z=>nomatch z),h.1⟩,fun h=>⟨h.2,.inl h.1⟩⟩
   refine⟨_,rfl,_,rfl,_,rfl,D4,_,_,_,rfl,rfl,SqL.of hdG,hix,D,ls,p,rfl,SqL.of (sG D _ hd2),⟨by omega,hxl⟩,fun D5 G5 hD5 s5 hw5=>?_⟩;obtain⟨kvs,ts,g,hd5,hwa,nd,hll5,hm,hg⟩:=hw5;have htl:ts.length<=28:=by have:ts.length<=2*ls.length+0:=hll5;omega
   obtain⟨hgo,htsof⟩:=gof nd hm hg;have hgx:∀ t∈ts,∀ y∈g t,1<=y.length∧y.length<=1000:=fun t ht y hy=>hxl y (cf.mp ((hg t ht).1.mem_iff.mp hy)).1
   have hsm:(ts.map fun t=>(g t).length).sum<=20:=by
    rw[bb fun t ht=>congrArg ge (hgo t ht)];exact a7 (Dt.Gz nd) (by omega)
   refine⟨D5,ts,kvs,g,rfl,hd5,hwa,nd,⟨by omega,hsm,hgx⟩,fun so D6 bs G6 hp6 hw6 hD6 s6 hd6 hR6=>?_⟩;have hts:=htsof so hp6 hw6;have hso:=hts.nd;have hT4:=Nz hip hts (by omega) hasc;have hLL:LLs K G6 (Dt.trs so so (dF ms)) bs:=by
    rw[<- On hso fun t ht=>hgo t (hp6.mem_iff.mp ht)];exact Nu hR6 (fun f=>so.map f) fun f b r=>SqL.of r.2.2
   refine⟨D6,bs,_,rfl,SqL.of hd6,hLL,Dt.zC hso (fun t _=>hasc t),fun Dd ds hDd hds=>?_⟩;have t7:=aE (o:=.lst (ds.map V.ref)) hDd;have hds:LLs K (upd G6 Dd (.lst (ds.map V.ref))) (Dt.trs so so (dF ms)) ds:=hds.mono fun a' b' _ r=>t7.seq r
   have hdd:upd G6 Dd (.lst (ds.map V.ref)) Dd=some (.lst (ds.map V.ref)):=aB;have s57:=s5.trans (s6.trans t7);generalize upd G6 Dd (.lst (ds.map V.ref))=G7 at hds hdd s57;have sG7:=sG.trans s57;have hd47:=s57 D4 _ hdG;clear s6 t7 hd6 hR6 hLL hDd hp6 hw6 hgx hsm hD6 hd5 hwa;refine⟨_,rfl,_,rfl,_,rfl,D4,_,_,_,rfl,rfl,SqL.of hd47,hix,_,rfl,x,tp,Dd,n,ms,p,so,ds,rfl,hW.on sG7,hokm,hT4,SqL.of hdd,hds,fun G8 s8=>?_⟩;refine⟨_,rfl,?_⟩;refine nK ?_;have hds8:LLs K G8 (Dt.trs so so (dF ms)) ds:=hds.mono fun a' b' _ r=>s8.seq r
   refine⟨_,rfl,_,rfl,_,rfl,D4,_,_,_,rfl,rfl,SqL.of (s8 D4 _ hd47),hix,_,rfl,x,tp,Dd,n,ms,p,so,ds,rfl,hW.on (sG7.trans s8),hokm,hT4,SqL.of (s8 Dd _ hdd),hds8,fun G9 s9=>?_⟩;refine⟨_,rfl,?_⟩;refine nK ?_;have s79:=s8.trans s9;have sG9:=sG7.trans s79;refine⟨_,rfl,_,rfl,_,rfl,_,rfl,D4,_,_,_,rfl,rfl,SqL.of (s79 D4 _ hd47),hix,_,rfl,_,rfl,_,rfl,a,ns,k,congrArg (fun z=>[V.ref a,V.int z]) (by omega),(s1.trans (s2.trans sG9)).seq hS,_,_,rfl,rfl,⟨by decide,by decide,by decide⟩,_,_,rfl,rfl,(by show (0:Int)<10 ^ 9;decide),x,tp,D,Dd,n,ms,ls,p,so,ds,_,rfl,hW.on sG9,hokm,hT4,⟨SqL.of (sG9 D _ hd2),hwg,hne⟩,SqL.of (s79 Dd _ hdd),hds.mono fun a' b' _ r=>s79.seq r,fun G10 s10=>?_⟩;refine⟨_,rfl,?_⟩;refine nK ?_;have s710:=s79.trans s10;have sG10:=sG7.trans s710;refine⟨_,rfl,_,rfl,_,rfl,D4,_,_,_,rfl,rfl,SqL.of (s710 D4 _ hd47),hix,D,ls,p,rfl,SqL.of (sG10 D _ hd2),⟨by omega,hxl⟩,fun D11 G11 hD11 s11 hw11=>?_⟩;obtain⟨kv2,ts2,g2,hd11,hwa2,nd2,hll2,hm2,hg2⟩:=hw11;have htl2:ts2.length<=28:=by have:ts2.length<=2*ls.length+0:=hll2;omega
   have hgx2:∀ t∈ts2,∀ y∈g2 t,1<=y.length∧y.length<=1000:=fun t ht y hy=>hxl y (cf.mp ((hg2 t ht).1.mem_iff.mp hy)).1
   refine⟨_,rfl,D11,ts2,kv2,rfl,hd11,hwa2.keys,(by omega),fun so2 S2 hS2 hp2b hw2b=>?_⟩;have tS:=aE (o:=.lst (so2.map T)) hS2;have hSS:upd G11 S2 (.lst (so2.map T)) S2=some (.lst (so2.map T)):=aB;have s7S:=s710.trans (s11.trans tS);have hdS:=tS D11 _ hd11;have hwS:=hwa2.mono tS;generalize upd G11 S2 (.lst (so2.map T))=GS at hSS s7S hdS hwS;refine⟨S2,rfl,⟨_,SqL.of hSS⟩,?_⟩;refine wD (fun v=>decide ((0:Int)<((((g2 (unT v)).map T).length:Nat):Int))) (fun v=>T ((g2 (unT v)).headD [])) (cF (SqL.of hSS)) (by rw[aR,hp2b.length_eq];omega) (fun v G12 hv sg N hN=>?_) (fun v G12 hv hpv sg N hN=>?_) fun Df Gf hDf sf hdf=>?_
   ·obtain⟨t,ht,rfl⟩:=ar.mp hv
    have z:=hN G12 (aM.refl _);rw[dP] at z;obtain⟨c,hc1,hc2⟩:=(hwS.mono sg).get (hp2b.mem_iff.mp ht);exact⟨_,rfl,_,rfl,D11,_,rfl,(by have y:=gL.k (k:=bx (tx t)) (sg D11 _ hdS);rw[hc1] at y;exact y),c,_,rfl,.inl (SqL.of hc2),_,_,rfl,rfl,_,rfl,z⟩
   ·obtain⟨t,ht,rfl⟩:=ar.mp hv
    have z:=hN G12 (aM.refl _);rw[dP] at z hpv;obtain⟨c,hc1,hc2⟩:=(hwS.mono sg).get (hp2b.mem_iff.mp ht);have hpos:(0:Int)<((((g2 t).map T).length:Nat):Int):=of_decide_eq_true hpv;refine⟨_,rfl,_,rfl,D11,_,rfl,(by have y:=gL.k (k:=bx (tx t)) (sg D11 _ hdS);rw[hc1] at y;exact y),c,_,_,_,rfl,rfl,SqL.of hc2,?_,z⟩
    cases e:g2 t with
    | nil=>rw[e] at hpos;exact absurd hpos (by decide)
    | cons y ys=>exact cQ (j:=0) rfl
   obtain⟨us,hus,hug⟩:∃ us:List (List Nat),((so2.map T).filter fun v=>decide ((0:Int)<((((g2 (unT v)).map T).length:Nat):Int))).map (fun v=>T ((g2 (unT v)).headD []))=us.map T∧Gd 1000 us:=by
    rw[show (so2.map T).filter (fun v=>decide ((0:Int)<((((g2 (unT v)).map T).length:Nat):Int)))=(so2.filter fun t=>decide ((0:Int)<((((g2 t).map T).length:Nat):Int))).map T from gE (p:=fun t=>decide ((0:Int)<((((g2 t).map T).length:Nat):Int))) so2,fU (f:=fun t=>T ((g2 t).headD []))];refine⟨(so2.filter fun t=>decide ((0:Int)<((((g2 t).map T).length:Nat):Int))).map fun t=>(g2 t).headD [],by rw[bf];rfl,?_,fun y hy=>?_⟩
    ·rw[aR]
     exact a7 (b8 ..) (by rw[hp2b.length_eq];omega)
    ·obtain⟨t,ht,rfl⟩:=ar.mp hy
     obtain⟨h1,h2⟩:=cf.mp ht;have hpos:(0:Int)<((((g2 t).map T).length:Nat):Int):=of_decide_eq_true h2;have h3:=hgx2 t (hp2b.mem_iff.mp h1)
     cases e:g2 t with
     | nil=>rw[e] at hpos;exact absurd hpos (by decide)
     | cons z zs=>exact h3 z (by rw[e];exact am ..)
   rw[hus] at hdf;have s7f:=s7S.trans sf;have sGf:=sG7.trans s7f;refine⟨_,rfl,_,rfl,_,rfl,D4,_,_,_,rfl,rfl,SqL.of (s7f D4 _ hd47),hix,_,rfl,x,tp,n,ms,p,Df,us,rfl,hW.on sGf,hokm,.inl (SqL.of hdf),hug,fun z=>absurd hip z,fun _ ts4 b4 G14 hts4 s14 hb4=>?_⟩;rw[hts.uniq hts4] at hb4;have s714:=s7f.trans s14;refine⟨_,rfl,_,rfl,Df,Dd,us,_,ds,rfl,rfl,SqL.of (s14 Df _ hdf),SqL.of (s714 Dd _ hdd),hds.mono fun a' b' _ r=>s714.seq r,_,rfl,_,rfl,_,rfl,?_⟩;refine itN (by rw[decide_eq_true (ci.mpr (hb4.trans decide_eq_true_iff.symm))];exact ak) ?_;exact⟨sG7.trans s714,s714 D4 _ hd47,_,_,_,_,rfl⟩
  ·rintro σ G ⟨sG,hdG,v4,v5,v6,v7,rfl⟩
   exact q _
end
def HF (K:ac)(f:Addr)(nm:Str)(st:Stmt):Prop:=∃ (oc:Value) (od:Option Addr) (kV dc pm:Value) (an:Option Addr) (cd ct:Value) (sl:Array (Option Value)),bu K mainGlobals nm=some (some (.ref f))∧K.lookup f=some ⟨oc,od,.func (fz nm nm (fT st) (fA st) (aI st) .none kV dc pm an cd ct),sl⟩∧ii K cd nm=true∧ff K (.ref f)=true
theorem HF.go {K:ac}{f:Addr}{nm:Str}{st:Stmt}(h:HF K f nm st):∃ fd,Fun K nm nm st f fd∧bu K mainGlobals nm=some (some (.ref f)):=by
 obtain⟨oc,od,kV,dc,pm,an,cd,ct,sl,a,l,c,k⟩:=h;exact⟨_,zZ (st:=st) l c k,a⟩
theorem hf_mk {K:ac}{f:Addr}{nm:Str}{st:Stmt}{oc:Value}{od:Option Addr}{kV dc pm:Value}{an:Option Addr}{cd ct:Value}{sl:Array (Option Value)}(a:bu K mainGlobals nm=some (some (.ref f)))(l:K.lookup f=some ⟨oc,od,.func (fz nm nm (fT st) (fA st) (aI st) .none kV dc pm an cd ct),sl⟩)(c:ii K cd nm=true)(k:ff K (.ref f)=true):HF K f nm st:=⟨oc,od,kV,dc,pm,an,cd,ct,sl,a,l,c,k⟩
theorem mkC (P:Program)(w:World){K:ac}{mg:Str->Option Value}{h:Heap}(base:Heap)(X:K.In h)(G:h.Ns mainGlobals mg){nm:Str}{st:Stmt}{f:Addr}{fd:FuncData}{k:Nat}{ps:List Str}{sp:Sp}(a:bu K mainGlobals nm=some (some (.ref f)))(F:Fun K nm nm st f fd)(ok:cN P w K mg base (CX1 P w) k f fd ps sp)(b:lI K fd ps []):Cal P w K mg base (CX1 P w) nm k ps sp:=⟨⟨_,_,ok,cz X G a,F.kp,b⟩⟩
theorem all_mk {l:oh}{w:World}{K:ac}{h:Heap}{mg:Str->Option Value}{fa:Addr}(X:K.In h)(G:h.Ns mainGlobals mg)(hfa:mg "law" = some (.ref fa))
  {f_0 f_1 f_2 f_3 f_4 f_5 f_6 f_7 f_8 f_9 f_10 f_11:Addr}
  {f_12:Addr} {od_12 an_12:Option Addr} {sl_12:Array (Option Value)} {oc_12 kV_12 dc_12 pm_12 cd_12 ct_12:Value}
  {f_13 f_14 f_15 f_16 f_17 f_18 f_19 f_20 f_21 f_22 f_23 f_24 f_25 f_26 f_27 f_28 f_29 f_30 f_31 f_32 f_33 f_34 f_35:Addr}
  {f_36:Addr} {od_36 an_36:Option Addr} {sl_36:Array (Option Value)} {oc_36 kV_36 dc_36 pm_36 cd_36 ct_36:Value}
  {c_BadKinds:Addr}
  {c_BadWord:Addr}
  {c_TooMany:Addr}
  {c_NoSuch:Addr}
  {c_Web:Addr}
  {c_KNOWN_TIMES:Addr}
  {u_FIRST_PRIME:Value}
  {u_STEP:Value}
  {u_LETTERS:Value}
  {u_LONGEST:Value}
  {u_MOST_OF_A_WEB:Value}
  {u_LONGEST_OF_A_WEB:Value}
  {u_MOST_TREES:Value}
  (h_0:HF K f_0 "further_times" fO)
  (h_1:HF K f_1 "inverse" nB)
  (h_2:HF K f_2 "lowered" kR)
  (h_3:HF K f_3 "first_other_than_nought" cX)
  (h_4:HF K f_4 "determinant_rest" cG)
  (h_5:HF K f_5 "greatest_of" fH)
  (h_6:HF K f_6 "determinant" gZ)
  (h_7:HF K f_7 "looked_kinds" gD)
  (h_8:HF K f_8 "looked_length" fR)
  (h_9:HF K f_9 "letters" nX)
  (h_10:HF K f_10 "looked" qB)
  (h_11:HF K f_11 "looked_web" iQ)
  (a_12:c6 K (.ref c_Web) "__init__" = some (some (.ref f_12))) (l_12:K.lookup f_12=some ⟨oc_12,od_12,.func (fz "__init__" "Web.__init__" (fT fF) (fA fF) (aI fF) .none kV_12 dc_12 pm_12 an_12 cd_12 ct_12),sl_12⟩) (c_12:ii K cd_12 "Web.__init__" = true) (k_12:ff K (.ref f_12)=true) (i_Web_init:tw K (.ref f_12)=true)
  (h_13:HF K f_13 "begin_of" lS)
  (h_14:HF K f_14 "end_of" qK)
  (h_15:HF K f_15 "pieces" jW)
  (h_16:HF K f_16 "outs" uG)
  (h_17:HF K f_17 "choice_row" eZ)
  (h_18:HF K f_18 "choices_counted" dW)
  (h_19:HF K f_19 "ways_toward" gW)
  (h_20:HF K f_20 "coming_to" kG)
  (h_21:HF K f_21 "is_tree" iH)
  (h_22:HF K f_22 "grown" wC)
  (h_23:HF K f_23 "trees" pF)
  (h_24:HF K f_24 "_law_cell_at" gK)
  (h_25:HF K f_25 "_law_walk" gQ)
  (h_26:HF K f_26 "_law_ring_words" eV)
  (h_27:HF K f_27 "_law_every" fY)
  (h_28:HF K f_28 "_law_digit_words" eL)
  (h_29:HF K f_29 "_law_some_words" fD)
  (h_30:HF K f_30 "_law_ways" jL)
  (h_31:HF K f_31 "_law_comes" iK)
  (h_32:HF K f_32 "_law_all_choices" dJ)
  (h_33:HF K f_33 "_law_strange" gC)
  (h_34:HF K f_34 "_law_told" jN)
  (h_35:HF K f_35 "_law_judged" gU)
  (a_36:bu K mainGlobals "law" = some (some (.ref f_36))) (l_36:K.lookup f_36=some ⟨oc_36,od_36,.func (fz "law" "law" (fT jE) (fA jE) (aI jE) .none kV_36 dc_36 pm_36 an_36 cd_36 ct_36),sl_36⟩) (c_36:ii K cd_36 "law" = true) (k_36:ff K (.ref f_36)=true)
  (z_abs:bu K mainGlobals "abs" = some none)
  (z_all:bu K mainGlobals "all" = some none)
  (z_bool:bu K mainGlobals "bool" = some none)
  (z_dict:bu K mainGlobals "dict" = some none)
  (z_enumerate:bu K mainGlobals "enumerate" = some none)
  (z_isinstance:bu K mainGlobals "isinstance" = some none)
  (z_len:bu K mainGlobals "len" = some none)
  (z_list:bu K mainGlobals "list" = some none)
  (z_range:bu K mainGlobals "range" = some none)
  (z_reversed:bu K mainGlobals "reversed" = some none)
  (z_set:bu K mainGlobals "set" = some none)
  (z_sorted:bu K mainGlobals "sorted" = some none)
  (z_sum:bu K mainGlobals "sum" = some none)
  (z_tuple:bu K mainGlobals "tuple" = some none)
  (z_zip:bu K mainGlobals "zip" = some none)
  (y_BadKinds:bu K mainGlobals "BadKinds" = some (some (.ref c_BadKinds)))
  (y_BadWord:bu K mainGlobals "BadWord" = some (some (.ref c_BadWord)))
  (y_TooMany:bu K mainGlobals "TooMany" = some (some (.ref c_TooMany)))
  (y_NoSuch:bu K mainGlobals "NoSuch" = some (some (.ref c_NoSuch)))
  (y_Web:bu K mainGlobals "Web" = some (some (.ref c_Web)))
  (y_KNOWN_TIMES:bu K mainGlobals "KNOWN_TIMES" = some (some (.ref c_KNOWN_TIMES)))
  (e_BadKinds:jn K c_BadKinds Ck "ValueError.__new__" = true)
  (e_BadWord:jn K c_BadWord Ck "ValueError.__new__" = true)
  (e_TooMany:jn K c_TooMany Ck "ValueError.__new__" = true)
  (e_NoSuch:jn K c_NoSuch Ck "ValueError.__new__" = true)
  (n1_NoSuch:c6 K (.ref c_NoSuch) "__getattribute__" = some (some (.builtin "BaseException.__getattribute__")))
  (n2_NoSuch:c6 K (.ref c_NoSuch) "__getattr__" = some none)
  (n3_NoSuch:c6 K (.ref c_NoSuch) "__class__" = some (some (.builtin "object.__class__")))
  (n4_NoSuch:mh K (.builtin "object.__class__") "__get__" = some (some (.builtin "getset_descriptor.__get__")))
  (n5_NoSuch:oa K (.builtin "object.__class__")=some true)
  (n6_NoSuch:ku K c_NoSuch (.type "object")=some true)
  (n7_NoSuch:ku K c_NoSuch (.type "BaseException")=some true)
  (n8_NoSuch:(tq K c_NoSuch).isSome=true)
  (n1_TooMany:c6 K (.ref c_TooMany) "__getattribute__" = some (some (.builtin "BaseException.__getattribute__")))
  (n2_TooMany:c6 K (.ref c_TooMany) "__getattr__" = some none)
  (n3_TooMany:c6 K (.ref c_TooMany) "__class__" = some (some (.builtin "object.__class__")))
  (n4_TooMany:mh K (.builtin "object.__class__") "__get__" = some (some (.builtin "getset_descriptor.__get__")))
  (n5_TooMany:oa K (.builtin "object.__class__")=some true)
  (n6_TooMany:ku K c_TooMany (.type "object")=some true)
  (n7_TooMany:ku K c_TooMany (.type "BaseException")=some true)
  (n8_TooMany:(tq K c_TooMany).isSome=true)
  (g_FIRST_PRIME:bu K mainGlobals "FIRST_PRIME" = some (some u_FIRST_PRIME)) (r_FIRST_PRIME:bF (.int 2305843009213693951) u_FIRST_PRIME)
  (g_STEP:bu K mainGlobals "STEP" = some (some u_STEP)) (r_STEP:bF (.int 6277101735386680763835789423207666416102355444464034512896) u_STEP)
  (g_LETTERS:bu K mainGlobals "LETTERS" = some (some u_LETTERS)) (r_LETTERS:bF (T [97,98,99,100,101,102]) u_LETTERS)
  (g_LONGEST:bu K mainGlobals "LONGEST" = some (some u_LONGEST)) (r_LONGEST:bF (.int 24) u_LONGEST)
  (g_MOST_OF_A_WEB:bu K mainGlobals "MOST_OF_A_WEB" = some (some u_MOST_OF_A_WEB)) (r_MOST_OF_A_WEB:bF (.int 64) u_MOST_OF_A_WEB)
  (g_LONGEST_OF_A_WEB:bu K mainGlobals "LONGEST_OF_A_WEB" = some (some u_LONGEST_OF_A_WEB)) (r_LONGEST_OF_A_WEB:bF (.int 8) u_LONGEST_OF_A_WEB)
  (g_MOST_TREES:bu K mainGlobals "MOST_TREES" = some (some u_MOST_TREES)) (r_MOST_TREES:bF (.int 500) u_MOST_TREES)
  (kt:tupIs K c_KNOWN_TIMES [133,211,598,652,721,850,1282,1417,1582,1681,1726,1837,1885,2017,2377,2383,2452,2476,2530,2611,2662,2698,2773,2878,2917,2980,2998,3082,3238,3250,3343,3421,3427,3670,3817,4162,4252,4447,4468,4621,4630,4747,4867,4891,4915,5128,5143,5236,5401,5587,5650,5803,5833,5923,5986,6202,6235,6286,6496,6526,6736,7093,7561,7696,7831,7855,7882,7927,8143,8248]=true)
  (pg_Web:kh K c_Web Str.empty=true) (hd_Web:jv K c_Web=true) (po_Web:mf K c_Web=true) (sa_Web:c6 K (.ref c_Web) "__setattr__" = some (some (.builtin "object.__setattr__"))) (mk_Web:n9 K c_Web=true) (kc_Web:ff K (.ref c_Web)=true)
  (na_Web_words:c6 K (.ref c_Web) "words" = some none)
  (na_Web_length:c6 K (.ref c_Web) "length" = some none) :
  ∃ fd:FuncData,(∀ (s:Shared) (v:Value),BindsTo s fd ⟨[v],[]⟩ [("script",v)])∧∀ base:Heap,K.In base->base.Ns mainGlobals mg->cN l.prog w K mg base (CX1 l.prog w) 7 fa fd ["script"] (Ax K):=by
 have e:=hfa.symm.trans (cz X G a_36);cases e;have tt:Txt K mg ⟨c_BadKinds,c_BadWord,c_TooMany,c_NoSuch,c_Web,c_KNOWN_TIMES,u_FIRST_PRIME,u_STEP,u_LETTERS,u_LONGEST,u_MOST_OF_A_WEB,u_LONGEST_OF_A_WEB,u_MOST_TREES⟩:=⟨cx X G z_abs,cx X G z_all,cx X G z_bool,cx X G z_dict,cx X G z_enumerate,cx X G z_isinstance,cx X G z_len,cx X G z_list,cx X G z_range,cx X G z_reversed,cx X G z_set,cx X G z_sorted,cx X G z_sum,cx X G z_tuple,cx X G z_zip,cz X G y_BadKinds,cz X G y_BadWord,cz X G y_TooMany,cz X G y_NoSuch,cz X G y_Web,cz X G y_KNOWN_TIMES,⟨cz X G y_BadKinds,e_BadKinds⟩,⟨cz X G y_BadWord,e_BadWord⟩,⟨cz X G y_TooMany,e_TooMany⟩,⟨cz X G y_NoSuch,e_NoSuch⟩,⟨n1_NoSuch,n2_NoSuch,n3_NoSuch,n4_NoSuch,n5_NoSuch,n6_NoSuch,n7_NoSuch,n8_NoSuch⟩,⟨n1_TooMany,n2_TooMany,n3_TooMany,n4_TooMany,n5_TooMany,n6_TooMany,n7_TooMany,n8_TooMany⟩,cz X G g_FIRST_PRIME,r_FIRST_PRIME,cz X G g_STEP,r_STEP,cz X G g_LETTERS,r_LETTERS,cz X G g_LONGEST,r_LONGEST,cz X G g_MOST_OF_A_WEB,r_MOST_OF_A_WEB,cz X G g_LONGEST_OF_A_WEB,r_LONGEST_OF_A_WEB,cz X G g_MOST_TREES,r_MOST_TREES,kt,⟨pg_Web,hd_Web,po_Web,sa_Web⟩,na_Web_words,na_Web_length⟩;obtain⟨_,F_0,a_0⟩:=h_0.go;have b_0:=F_0.binds (ps:=["place", "last"]) fun _ _ _ _ _ _ us hl=>L2.on2 (C:=fun us=>bindArgs _ ⟨us,[]⟩=pure (c7 _ us)) hl fun _ _=>rfl
 obtain⟨_,F_1,a_1⟩:=h_1.go;have b_1:=F_1.binds (ps:=["number", "prime"]) fun _ _ _ _ _ _ us hl=>L2.on2 (C:=fun us=>bindArgs _ ⟨us,[]⟩=pure (c7 _ us)) hl fun _ _=>rfl
 obtain⟨_,F_2,a_2⟩:=h_2.go;have b_2:=F_2.binds (ps:=["row", "top", "back", "prime"]) fun _ _ _ _ _ _ us hl=>L2.on4 (C:=fun us=>bindArgs _ ⟨us,[]⟩=pure (c7 _ us)) hl fun _ _ _ _=>rfl
 obtain⟨_,F_3,a_3⟩:=h_3.go;have b_3:=F_3.binds (ps:=["numbers"]) fun _ _ _ _ _ _ us hl=>L2.on1 (C:=fun us=>bindArgs _ ⟨us,[]⟩=pure (c7 _ us)) hl fun _=>rfl
 obtain⟨_,F_4,a_4⟩:=h_4.go;have b_4:=F_4.binds (ps:=["square", "prime"]) fun _ _ _ _ _ _ us hl=>L2.on2 (C:=fun us=>bindArgs _ ⟨us,[]⟩=pure (c7 _ us)) hl fun _ _=>rfl
 obtain⟨_,F_5,a_5⟩:=h_5.go;have b_5:=F_5.binds (ps:=["square"]) fun _ _ _ _ _ _ us hl=>L2.on1 (C:=fun us=>bindArgs _ ⟨us,[]⟩=pure (c7 _ us)) hl fun _=>rfl
 obtain⟨_,F_6,a_6⟩:=h_6.go;have b_6:=F_6.binds (ps:=["square"]) fun _ _ _ _ _ _ us hl=>L2.on1 (C:=fun us=>bindArgs _ ⟨us,[]⟩=pure (c7 _ us)) hl fun _=>rfl
 obtain⟨_,F_7,a_7⟩:=h_7.go;have b_7:=F_7.binds (ps:=["kinds"]) fun _ _ _ _ _ _ us hl=>L2.on1 (C:=fun us=>bindArgs _ ⟨us,[]⟩=pure (c7 _ us)) hl fun _=>rfl
 obtain⟨_,F_8,a_8⟩:=h_8.go;have b_8:=F_8.binds (ps:=["length", "kinds"]) fun _ _ _ _ _ _ us hl=>L2.on2 (C:=fun us=>bindArgs _ ⟨us,[]⟩=pure (c7 _ us)) hl fun _ _=>rfl
 obtain⟨_,F_9,a_9⟩:=h_9.go;have b_9:=F_9.binds (ps:=["kinds"]) fun _ _ _ _ _ _ us hl=>L2.on1 (C:=fun us=>bindArgs _ ⟨us,[]⟩=pure (c7 _ us)) hl fun _=>rfl
 obtain⟨_,F_10,a_10⟩:=h_10.go;have b_10:=F_10.binds (ps:=["word", "kinds"]) fun _ _ _ _ _ _ us hl=>L2.on2 (C:=fun us=>bindArgs _ ⟨us,[]⟩=pure (c7 _ us)) hl fun _ _=>rfl
 obtain⟨_,F_11,a_11⟩:=h_11.go;have b_11:=F_11.binds (ps:=["words"]) fun _ _ _ _ _ _ us hl=>L2.on1 (C:=fun us=>bindArgs _ ⟨us,[]⟩=pure (c7 _ us)) hl fun _=>rfl
 have F_12:=zZ (st:=fF) l_12 c_12 k_12;have b_12:=F_12.binds (ps:=["self", "words"]) fun _ _ _ _ _ _ us hl=>L2.on2 (C:=fun us=>bindArgs _ ⟨us,[]⟩=pure (c7 _ us)) hl fun _ _=>rfl
 obtain⟨_,F_13,a_13⟩:=h_13.go;have b_13:=F_13.binds (ps:=["word"]) fun _ _ _ _ _ _ us hl=>L2.on1 (C:=fun us=>bindArgs _ ⟨us,[]⟩=pure (c7 _ us)) hl fun _=>rfl
 obtain⟨_,F_14,a_14⟩:=h_14.go;have b_14:=F_14.binds (ps:=["word"]) fun _ _ _ _ _ _ us hl=>L2.on1 (C:=fun us=>bindArgs _ ⟨us,[]⟩=pure (c7 _ us)) hl fun _=>rfl
 obtain⟨_,F_15,a_15⟩:=h_15.go;have b_15:=F_15.binds (ps:=["web"]) fun _ _ _ _ _ _ us hl=>L2.on1 (C:=fun us=>bindArgs _ ⟨us,[]⟩=pure (c7 _ us)) hl fun _=>rfl
 obtain⟨_,F_16,a_16⟩:=h_16.go;have b_16:=F_16.binds (ps:=["web", "piece"]) fun _ _ _ _ _ _ us hl=>L2.on2 (C:=fun us=>bindArgs _ ⟨us,[]⟩=pure (c7 _ us)) hl fun _ _=>rfl
 obtain⟨_,F_17,a_17⟩:=h_17.go;have b_17:=F_17.binds (ps:=["texts", "text", "words"]) fun _ _ _ _ _ _ us hl=>L2.on3 (C:=fun us=>bindArgs _ ⟨us,[]⟩=pure (c7 _ us)) hl fun _ _ _=>rfl
 obtain⟨_,F_18,a_18⟩:=h_18.go;have b_18:=F_18.binds (ps:=["ways"]) fun _ _ _ _ _ _ us hl=>L2.on1 (C:=fun us=>bindArgs _ ⟨us,[]⟩=pure (c7 _ us)) hl fun _=>rfl
 obtain⟨_,F_19,a_19⟩:=h_19.go;have b_19:=F_19.binds (ps:=["web", "piece"]) fun _ _ _ _ _ _ us hl=>L2.on2 (C:=fun us=>bindArgs _ ⟨us,[]⟩=pure (c7 _ us)) hl fun _ _=>rfl
 obtain⟨_,F_20,a_20⟩:=h_20.go;have b_20:=F_20.binds (ps:=["words", "piece"]) fun _ _ _ _ _ _ us hl=>L2.on2 (C:=fun us=>bindArgs _ ⟨us,[]⟩=pure (c7 _ us)) hl fun _ _=>rfl
 obtain⟨_,F_21,a_21⟩:=h_21.go;have b_21:=F_21.binds (ps:=["web", "piece", "tree"]) fun _ _ _ _ _ _ us hl=>L2.on3 (C:=fun us=>bindArgs _ ⟨us,[]⟩=pure (c7 _ us)) hl fun _ _ _=>rfl
 obtain⟨_,F_22,a_22⟩:=h_22.go;have b_22:=F_22.binds (ps:=["begun", "words", "later", "piece", "size"]) fun _ _ _ _ _ _ us hl=>L2.on5 (C:=fun us=>bindArgs _ ⟨us,[]⟩=pure (c7 _ us)) hl fun _ _ _ _ _=>rfl
 obtain⟨_,F_23,a_23⟩:=h_23.go;have b_23:=F_23.binds (ps:=["web", "piece"]) fun _ _ _ _ _ _ us hl=>L2.on2 (C:=fun us=>bindArgs _ ⟨us,[]⟩=pure (c7 _ us)) hl fun _ _=>rfl
 obtain⟨_,F_24,a_24⟩:=h_24.go;have b_24:=F_24.binds (ps:=["script", "k"]) fun _ _ _ _ _ _ us hl=>L2.on2 (C:=fun us=>bindArgs _ ⟨us,[]⟩=pure (c7 _ us)) hl fun _ _=>rfl
 obtain⟨_,F_25,a_25⟩:=h_25.go;have b_25:=F_25.binds (ps:=["cells", "kinds", "first"]) fun _ _ _ _ _ _ us hl=>L2.on3 (C:=fun us=>bindArgs _ ⟨us,[]⟩=pure (c7 _ us)) hl fun _ _ _=>rfl
 obtain⟨_,F_26,a_26⟩:=h_26.go;have b_26:=F_26.binds (ps:=["script", "at", "most"]) fun _ _ _ _ _ _ us hl=>L2.on3 (C:=fun us=>bindArgs _ ⟨us,[]⟩=pure (c7 _ us)) hl fun _ _ _=>rfl
 obtain⟨_,F_27,a_27⟩:=h_27.go;have b_27:=F_27.binds (ps:=["kinds", "length"]) fun _ _ _ _ _ _ us hl=>L2.on2 (C:=fun us=>bindArgs _ ⟨us,[]⟩=pure (c7 _ us)) hl fun _ _=>rfl
 obtain⟨_,F_28,a_28⟩:=h_28.go;have b_28:=F_28.binds (ps:=["cell", "most"]) fun _ _ _ _ _ _ us hl=>L2.on2 (C:=fun us=>bindArgs _ ⟨us,[]⟩=pure (c7 _ us)) hl fun _ _=>rfl
 obtain⟨_,F_29,a_29⟩:=h_29.go;have b_29:=F_29.binds (ps:=["script", "at", "most"]) fun _ _ _ _ _ _ us hl=>L2.on3 (C:=fun us=>bindArgs _ ⟨us,[]⟩=pure (c7 _ us)) hl fun _ _ _=>rfl
 obtain⟨_,F_30,a_30⟩:=h_30.go;have b_30:=F_30.binds (ps:=["words", "piece"]) fun _ _ _ _ _ _ us hl=>L2.on2 (C:=fun us=>bindArgs _ ⟨us,[]⟩=pure (c7 _ us)) hl fun _ _=>rfl
 obtain⟨_,F_31,a_31⟩:=h_31.go;have b_31:=F_31.binds (ps:=["chosen"]) fun _ _ _ _ _ _ us hl=>L2.on1 (C:=fun us=>bindArgs _ ⟨us,[]⟩=pure (c7 _ us)) hl fun _=>rfl
 obtain⟨_,F_32,a_32⟩:=h_32.go;have b_32:=F_32.binds (ps:=["ways"]) fun _ _ _ _ _ _ us hl=>L2.on1 (C:=fun us=>bindArgs _ ⟨us,[]⟩=pure (c7 _ us)) hl fun _=>rfl
 obtain⟨_,F_33,a_33⟩:=h_33.go;have b_33:=F_33.binds (ps:=["tree", "words", "cell"]) fun _ _ _ _ _ _ us hl=>L2.on3 (C:=fun us=>bindArgs _ ⟨us,[]⟩=pure (c7 _ us)) hl fun _ _ _=>rfl
 obtain⟨_,F_34,a_34⟩:=h_34.go;have b_34:=F_34.binds (ps:=["web", "piece", "due"]) fun _ _ _ _ _ _ us hl=>L2.on3 (C:=fun us=>bindArgs _ ⟨us,[]⟩=pure (c7 _ us)) hl fun _ _ _=>rfl
 obtain⟨_,F_35,a_35⟩:=h_35.go;have b_35:=F_35.binds (ps:=["web", "words", "piece", "due", "cell"]) fun _ _ _ _ _ _ us hl=>L2.on5 (C:=fun us=>bindArgs _ ⟨us,[]⟩=pure (c7 _ us)) hl fun _ _ _ _ _=>rfl
 have F_36:=zZ (st:=jE) l_36 c_36 k_36;refine⟨fz "law" "law" (fT jE) (fA jE) (aI jE) .none kV_36 dc_36 pm_36 an_36 cd_36 ct_36,fun s v=>.of_eq rfl,fun base _ _=>?_⟩
 have C_0:=mkC l.prog w base X G a_0 F_0 (nZ F_0 tt) b_0;have C_1:=mkC l.prog w base X G a_1 F_1 (zO F_1 tt) b_1;have C_2:=mkC l.prog w base X G a_2 F_2 (zL F_2 tt) b_2;have C_3:=mkC l.prog w base X G a_3 F_3 (gG F_3 tt) b_3;have C_4:=mkC l.prog w base X G a_4 F_4 (kY F_4 tt C_3 C_1 C_2) b_4;have C_5:=mkC l.prog w base X G a_5 F_5 (qJ F_5 tt) b_5;have C_6:=mkC l.prog w base X G a_6 F_6 (pW F_6 tt C_5 C_4 C_0 C_1) b_6;have C_7:=mkC l.prog w base X G a_7 F_7 (oS F_7 tt) b_7;have C_8:=mkC l.prog w base X G a_8 F_8 (nP F_8 tt C_7) b_8;have C_9:=mkC l.prog w base X G a_9 F_9 (zQ F_9 tt C_7) b_9;have C_10:=mkC l.prog w base X G a_10 F_10 (Da F_10 tt C_8 C_9) b_10;have C_11:=mkC l.prog w base X G a_11 F_11 (sB F_11 tt C_10) b_11;have C_12:Cam l.prog w K mg base (CX1 l.prog w) "Web" c_Web 5 ["self", "words"] (zP K _):=⟨⟨_,_,wI F_12 tt C_11,⟨mk_Web,a_12,i_Web_init,kc_Web⟩,cz X G y_Web,b_12⟩⟩
 have C_13:=mkC l.prog w base X G a_13 F_13 (xJ F_13 tt) b_13;have C_14:=mkC l.prog w base X G a_14 F_14 (Ek F_14 tt) b_14;have C_15:=mkC l.prog w base X G a_15 F_15 (Ej F_15 tt C_13 C_14) b_15;have C_16:=mkC l.prog w base X G a_16 F_16 (Mb F_16 tt C_13) b_16;have C_17:=mkC l.prog w base X G a_17 F_17 (rQ F_17 tt C_14) b_17;have C_18:=mkC l.prog w base X G a_18 F_18 (lP F_18 tt C_6 C_17) b_18;have C_19:=mkC l.prog w base X G a_19 F_19 (qY F_19 tt C_15 C_16) b_19;have C_20:=mkC l.prog w base X G a_20 F_20 (vT F_20 tt C_14 C_13) b_20;have C_21:=mkC l.prog w base X G a_21 F_21 (zN F_21 tt C_19 C_13 C_20) b_21;have C_22:=mkC l.prog w base X G a_22 F_22 (Jv F_22 tt C_20) b_22;have C_23:=mkC l.prog w base X G a_23 F_23 (Go F_23 tt C_19 C_18 C_13 C_22) b_23;have C_24:=mkC l.prog w base X G a_24 F_24 (oK F_24 tt) b_24;have C_25:=mkC l.prog w base X G a_25 F_25 (vK F_25 tt) b_25;have C_26:=mkC l.prog w base X G a_26 F_26 (lT F_26 tt C_24 C_25) b_26;have C_27:=mkC l.prog w base X G a_27 F_27 (rY F_27 tt) b_27;have C_28:=mkC l.prog w base X G a_28 F_28 (kX F_28 tt C_27) b_28;have C_29:=mkC l.prog w base X G a_29 F_29 (lW F_29 tt C_24 C_26 C_28) b_29;have C_30:=mkC l.prog w base X G a_30 F_30 (vM F_30 tt) b_30;have C_31:=mkC l.prog w base X G a_31 F_31 (rN F_31 tt) b_31;have C_32:=mkC l.prog w base X G a_32 F_32 (kZ F_32 tt C_31) b_32;have C_33:=mkC l.prog w base X G a_33 F_33 (oJ F_33 tt) b_33;have C_34:=mkC l.prog w base X G a_34 F_34 (uI F_34 tt C_23 C_21) b_34;have C_35:=mkC l.prog w base X G a_35 F_35 (pR F_35 tt C_33 C_21) b_35;exact Pz F_36 tt C_29 C_12 C_24 C_30 C_32 C_34 C_35 C_21
theorem walk {l : oh} {q : Program} {loose : List Str} {XP : (Str → Option Value) → Heap → Prop} {YP : World → Heap → Prop} {d : DefRec} {K : Params → ac} (hn : l.most = some 63) (hdf : d.params.defaults = [])
  (hY : ∀ (w : World) (h : Heap), YP w h → (K w.params).In h)
  (F : ∀ (w : World) (mg : Str → Option Value) (fa : Addr) (h : Heap), (K w.params).In h → h.Ns mainGlobals mg → mg d.name = some (.ref fa) →
   ∃ fd : FuncData, (∀ (s : Shared) (u : Value), BindsTo s fd ⟨[u], []⟩ [("script", u)]) ∧ ∀ base : Heap, (K w.params).In base → base.Ns mainGlobals mg → cN l.prog w (K w.params) mg base (CX1 l.prog w) 7 fa fd ["script"] (Ax (K w.params))) :
  ti q loose XP YP l.row.toRowW d [] (fun f vs => r6 f vs) :=
 L2.Ku (n := 63) (k := 7) (x := "script") (CX := fun w => CX1 l.prog w) (sp := fun w => Ax (K w.params)) hn (by decide) hdf ⟨rfl, by decide, by decide⟩ hY F (fun _ _ a ns hl _ hS => ⟨a, ns, rfl, hS, hl, fun _ => rfl⟩) fun _ _ _ _ _ ⟨_, _, _, _, _, z⟩ => z
end K32
theorem PySem.W.Fast.tw4895396033141818496:True:=trivial
theorem PySem.W.Fast.tw7798884333533225088:True:=trivial
theorem PySem.W.Fast.tw17944955928325405984:True:=trivial
theorem PySem.W.Fast.tw7853866753481151328:True:=trivial
theorem PySem.W.Fast.tw8937402371557356417:True:=trivial
theorem PySem.W.Fast.tw11848961224365061250:True:=trivial
theorem PySem.W.Fast.tw10620779618820491683:True:=trivial
theorem PySem.W.Fast.tw2806310640444341859:True:=trivial
theorem PySem.W.Fast.tw14234056018043379748:True:=trivial
theorem PySem.W.Fast.tw17985918804816100388:True:=trivial
theorem PySem.W.Fast.tw14547833680523311396:True:=trivial
theorem PySem.W.Fast.tw17384047863753309668:True:=trivial
theorem PySem.W.Fast.tw17740219989884977285:True:=trivial
theorem PySem.W.Fast.tw13865567680278850949:True:=trivial
theorem PySem.W.Fast.tw4211532109008842342:True:=trivial
theorem PySem.W.Fast.tw17464692660867674950:True:=trivial
theorem PySem.W.Fast.tw11049953708554906215:True:=trivial
theorem PySem.W.Fast.tw9351788935780299848:True:=trivial
theorem PySem.W.Fast.tw1351746873094256841:True:=trivial
theorem PySem.W.Fast.te3485423647813475849:True:=trivial
theorem PySem.W.Fast.tw17010077687595823625:True:=trivial
theorem PySem.W.Fast.tw3980240532423767114:True:=trivial
theorem PySem.W.Fast.tw11459705369423891370:True:=trivial
theorem PySem.W.Fast.tw16389949197965009291:True:=trivial
theorem PySem.W.Fast.tw7397071881448044971:True:=trivial
theorem PySem.W.Fast.tw14418400750332177292:True:=trivial
theorem PySem.W.Fast.tw1384755706534683341:True:=trivial
theorem PySem.W.Fast.tw9535550777256108909:True:=trivial
theorem PySem.W.Fast.tw9653612474726941167:True:=trivial
theorem PySem.W.Fast.tw2556967348306822735:True:=trivial
theorem PySem.W.Fast.tw929939398712604271:True:=trivial
theorem PySem.W.Fast.tw10518058241257908337:True:=trivial
theorem PySem.W.Fast.tw12486657431293656177:True:=trivial
theorem PySem.W.Fast.tw17970359042213696977:True:=trivial
theorem PySem.W.Fast.tw2652273582037225682:True:=trivial
theorem PySem.W.Fast.tw12085393051665951506:True:=trivial
theorem PySem.W.Fast.tw10259800263573151730:True:=trivial
theorem PySem.W.Fast.tw10026862269636228211:True:=trivial
theorem PySem.W.Fast.tw858078508925115891:True:=trivial
theorem PySem.W.Fast.tw9998713174904649491:True:=trivial
theorem PySem.W.Fast.tw11444947726437557268:True:=trivial
theorem PySem.W.Fast.tw6957814713349357908:True:=trivial
theorem PySem.W.Fast.tw13004678605593377588:True:=trivial
theorem PySem.W.Fast.tw17756147234438906165:True:=trivial
theorem PySem.W.Fast.tw5360350298746565557:True:=trivial
theorem PySem.W.Fast.tw14485998834875498550:True:=trivial
theorem PySem.W.Fast.tw937370456436543126:True:=trivial
theorem PySem.W.Fast.tw9447936373827603126:True:=trivial
theorem PySem.W.Fast.tw12799669478440290647:True:=trivial
theorem PySem.W.Fast.tw15414440557198921111:True:=trivial
theorem PySem.W.Fast.tw17775444464380099287:True:=trivial
theorem PySem.W.Fast.tw13462377368844818456:True:=trivial
theorem PySem.W.Fast.tw10509803779826154616:True:=trivial
theorem PySem.W.Fast.tw10963633171055708888:True:=trivial
theorem PySem.W.Fast.tw10515131701000736568:True:=trivial
theorem PySem.W.Fast.tw3871266701600930009:True:=trivial
theorem PySem.W.Fast.tw11355336304023249881:True:=trivial
theorem PySem.W.Fast.tw4401191526180299098:True:=trivial
theorem PySem.W.Fast.tw11041206523026973146:True:=trivial
theorem PySem.W.Fast.tw14625892435486069210:True:=trivial
theorem PySem.W.Fast.tw12838257504015628826:True:=trivial
theorem PySem.W.Fast.tw13446682489331271419:True:=trivial
theorem PySem.W.Fast.tw3540100593816905116:True:=trivial
theorem PySem.W.Fast.tw9923937694726076765:True:=trivial
theorem PySem.W.Fast.tw12301931909354426973:True:=trivial
theorem PySem.W.Fast.tw17530678869470312125:True:=trivial
theorem PySem.W.Fast.tw13105218551704369949:True:=trivial
theorem PySem.W.Fast.tw14494098333896292063:True:=trivial
def PySem.W.Fast.tw6994996051781968535:=PySem.Challenge.pw_onceround_k32_trees_listed
theorem PySem.W.Fast.te6994996051781968535:PySem.Challenge.pw_onceround_k32_trees_listed=PySem.W.Fast.tw6994996051781968535:=rfl
end
open PySem PySem.W PyProof.Rows
set_option maxRecDepth 100000 in
set_option maxHeartbeats 0 in
theorem PySem.Challenge.cw_onceround_k32_trees_listed_holds : PySem.Challenge.rw_onceround_k32_trees_listed.Holds := by
  w_on; o_law; k_head; (case hw=>w_witness2)
  k_fill
  refine K32.walk (l := PySem.Challenge.rw_onceround_k32_trees_listed) rfl rfl (fun w h Y => PySem.W.kIn_of Y) ?F
  case F =>
    intro w mg fa h KX G hmg
    refine' K32.all_mk KX G hmg ?h_0 ?h_1 ?h_2 ?h_3 ?h_4 ?h_5 ?h_6 ?h_7 ?h_8 ?h_9 ?h_10 ?h_11 ?a_12 ?l_12 ?c_12 ?k_12 ?i_Web_init ?h_13 ?h_14 ?h_15 ?h_16 ?h_17 ?h_18 ?h_19 ?h_20 ?h_21 ?h_22 ?h_23 ?h_24 ?h_25 ?h_26 ?h_27 ?h_28 ?h_29 ?h_30 ?h_31 ?h_32 ?h_33 ?h_34 ?h_35 ?a_36 ?l_36 ?c_36 ?k_36 ?z_abs ?z_all ?z_bool ?z_dict ?z_enumerate ?z_isinstance ?z_len ?z_list ?z_range ?z_reversed ?z_set ?z_sorted ?z_sum ?z_tuple ?z_zip ?y_BadKinds ?y_BadWord ?y_TooMany ?y_NoSuch ?y_Web ?y_KNOWN_TIMES ?e_BadKinds ?e_BadWord ?e_TooMany ?e_NoSuch ?n1_NoSuch ?n2_NoSuch ?n3_NoSuch ?n4_NoSuch ?n5_NoSuch ?n6_NoSuch ?n7_NoSuch ?n8_NoSuch ?n1_TooMany ?n2_TooMany ?n3_TooMany ?n4_TooMany ?n5_TooMany ?n6_TooMany ?n7_TooMany ?n8_TooMany ?g_FIRST_PRIME ?r_FIRST_PRIME ?g_STEP ?r_STEP ?g_LETTERS ?r_LETTERS ?g_LONGEST ?r_LONGEST ?g_MOST_OF_A_WEB ?r_MOST_OF_A_WEB ?g_LONGEST_OF_A_WEB ?r_LONGEST_OF_A_WEB ?g_MOST_TREES ?r_MOST_TREES ?kt ?pg_Web ?hd_Web ?po_Web ?sa_Web ?mk_Web ?kc_Web ?na_Web_words ?na_Web_length
    (case y_Web=>k_is)
    (all_goals try (apply K32.hf_mk <;> k_is));(case a_12=>k_is);(case l_12=>k_is);(case c_12=>k_is);(case k_12=>k_is);(case a_36=>k_is);(case l_36=>k_is);(case c_36=>k_is);(case k_36=>k_is);(case z_abs=>k_is);(case z_all=>k_is);(case z_bool=>k_is);(case z_dict=>k_is);(case z_enumerate=>k_is);(case z_isinstance=>k_is);(case z_len=>k_is);(case z_list=>k_is);(case z_range=>k_is);(case z_reversed=>k_is);(case z_set=>k_is);(case z_sorted=>k_is);(case z_sum=>k_is);(case z_tuple=>k_is);(case z_zip=>k_is);(case y_BadKinds=>k_is);(case y_BadWord=>k_is);(case y_TooMany=>k_is);(case y_NoSuch=>k_is);(case y_KNOWN_TIMES=>k_is);(case e_BadKinds=>kernel_rfl);(case e_BadWord=>kernel_rfl);(case e_TooMany=>kernel_rfl);(case e_NoSuch=>kernel_rfl);(case n1_NoSuch=>k_is);(case n2_NoSuch=>k_is);(case n3_NoSuch=>k_is);(case n4_NoSuch=>k_is);(case n5_NoSuch=>k_is);(case n6_NoSuch=>k_is);(case n7_NoSuch=>k_is);(case n8_NoSuch=>kernel_rfl);(case n1_TooMany=>k_is);(case n2_TooMany=>k_is);(case n3_TooMany=>k_is);(case n4_TooMany=>k_is);(case n5_TooMany=>k_is);(case n6_TooMany=>k_is);(case n7_TooMany=>k_is);(case n8_TooMany=>kernel_rfl);(case g_FIRST_PRIME=>k_is);(case r_FIRST_PRIME=>exact ⟨_, rfl⟩);(case g_STEP=>k_is);(case r_STEP=>exact ⟨_, rfl⟩);(case g_LETTERS=>k_is);(case r_LETTERS=>exact ⟨_, rfl⟩);(case g_LONGEST=>k_is);(case r_LONGEST=>exact ⟨_, rfl⟩);(case g_MOST_OF_A_WEB=>k_is);(case r_MOST_OF_A_WEB=>exact ⟨_, rfl⟩);(case g_LONGEST_OF_A_WEB=>k_is);(case r_LONGEST_OF_A_WEB=>exact ⟨_, rfl⟩);(case g_MOST_TREES=>k_is);(case r_MOST_TREES=>exact ⟨_, rfl⟩);(case kt=>kernel_rfl);(case pg_Web=>k_is);(case hd_Web=>k_is);(case po_Web=>k_is);(case sa_Web=>k_is);(case mk_Web=>k_is);(case kc_Web=>k_is);(case na_Web_words=>k_is);(case na_Web_length=>k_is);(case i_Web_init=>k_is)
#print axioms PySem.Challenge.cw_onceround_k32_trees_listed_holds
