import PyProof.Rows.All
import Wide.All
import OpenK.AllK
import Wide.FinOn
import Lean
import PyProof.EqAt
import PyProof.EqKinds
import PyProof.TupleCall
import PySem.Challenge.RW_onceround_k40_whole_rows_numbered
open Array renaming length_toList->bb,getD_eq_getD_getElem?->bt,getElem?_eq_getElem->er,getElem?_toList->gv,eq_empty_of_size_eq_zero->k9,append_assoc->l0,size_map->mf,getElem?_append_left->mh,toList_push->mn,getElem?_eq_none->nu,getElem?_range->pb,forIn_toList->qd,replicate->r8,getD->si,toList->tw,range->ua
open Bool renaming false_ne_true->ak,false_eq_true->cm,and_eq_true->cr,eq_iff_iff->c7,or_false->gq,or_eq_true->iy,eq_false_iff->jc,and_false->jk,not_true->jv,false_and->kc,beq_eq_decide_eq->ou,not_eq_true'->qr,or_true->t7
open Classical renaming byContradiction->b6,choose->jn,choose_spec->om
open Int renaming emod_lt_of_pos->ci,toNat_natCast->c8,emod_nonneg->dc,mul_assoc->dm,natAbs_natCast->d0,natCast_mul->eg,mul_comm->fz,mul_zero->ga,natCast_add->gi,one_mul->im,mul_le_mul_of_nonneg_right->k7,mul_one->ld,mul_le_mul_of_nonneg_left->lh,zero_sub->lv,sub_zero->lw,fdiv_eq_ediv_of_nonneg->l6,natAbs_mul->l8,sub_mul->mm,dvd_mul_of_dvd_right->mq,dvd_mul_of_dvd_left->mz,zero_mul->nn,mul_add->o0,dvd_neg->o6,natAbs_eq_zero->qf,add_zero->qk,dvd_mul_right->ql,natAbs_sub_le->qm,zero_add->qv,neg_mul->rc,dvd_add->re
open List renaming length_map->aR,getElem?_eq_getElem->aa,getElem?_eq_some_iff->ag,mem_cons_of_mem->ah,getD_eq_getElem?_getD->aj,getElem?_map->al,map_cons->am,length_append->aq,mem_cons_self->ar,mem_map->au,mem_cons->aw,mem_of_getElem?->ay,mem_singleton->az,size_toArray->a8,length_cons->a9,mem_append->bj,map_append->bn,map_map->br,mem_append_right->bu,map_congr_left->bv,length_eq_zero_iff->bx,length_singleton->b7,length_drop->b9,length_take->cb,zip->ce,range->cf,sum_cons->cg,length_pos_iff->cj,nodup_cons->ck,take_add_one->cn,getElem?_eq_none->cp,take_of_length_le->cq,filter_cons->cu,mem_range->cx,getElem_mem->cz,take_length->da,length_filter_le->db,perm_ext_iff_of_nodup->dh,filter_cons_of_neg->di,length_range->dj,flatMap_cons->dk,filter_cons_of_pos->dq,append_nil->dv,nodup_append->dw,pairwise_map->dy,mem_filter->d8,length_pos_of_mem->ei,not_mem_nil->ej,all_eq_true->fe,cons_append->ff,getElem?_append_right->fi,drop_zero->fk,length->fo,getElem?_append_left->fq,drop_eq_getElem_cons->ft,filter_append->fu,mem_append_left->gc,lt_irrefl->ge,append_assoc->gf,length_nil->gj,filterMap_cons->gk,mem_map_of_mem->gm,filter_eq_nil_iff->gn,nodup_nil->gu,exists_mem_of_ne_nil->gx,pairwise_iff_getElem->gy,find?_cons->gz,map_nil->g7,length_eraseIdx->g8,getElem?_of_mem->g9,filterMap_cons_some->ia,lookup_cons->ij,drop_append_of_le_length->iq,exists_mem_of_length_pos->ir,pairwise_lt_range->iw,dropLast_concat_getLast->iz,getElem?_toArray->i7,take_sublist->i9,idxOf_lt_length_of_mem->jb,lookup->jd,take_zero->jg,mem_flatMap->jm,replicate_succ->jq,filter_sublist->jr,getElem?_take_of_lt->js,filterMap_cons_none->ju,map_drop->jw,getElem?_drop->jz,filter_filter->j4,pairwise_cons->j5,map_id->j6,findIdx?_eq_some_iff_getElem->j9,replicate->kf,ext_getElem?->kg,flatten_cons->kh,getElem?_eraseIdx->kj,filter_congr->km,count_append->kq,getElem?_zipWith->kx,eq_nil_iff_forall_not_mem->k8,any_cons->lb,map_take->lc,nil_append->ll,filter_nil->lq,filter_eq_self->lr,mem_filterMap->l5,map_singleton->l9,getElem?_tail->ma,length_eraseIdx_of_lt->me,findIdx?_eq_none_iff->mi,idxOf_lt_length_iff->mr,perm_nil->mw,countP_cons->m6,flatMap_map->m7,any_eq_true->nc,drop_length->ng,getElem?_set_self->nh,zipWith->ny,of_mem_zip->n8,range_succ->oh,foldl_cons->oj,length_replicate->ol,perm_append_comm->oo,take_append_drop->oq,mem_iff_getElem?->ox,getElem?_set_ne->oy,mem_of_mem_drop->pd,mem_of_mem_take->pe,length_flatMap->ph,length_zipWith->pi,all_cons->pj,getElem_idxOf->p0,flatMap_assoc->p8,ne_nil_of_mem->p9,find?_eq_none->qc,reverse_perm->qp,find?_append->qw,prefix_refl->q5,ext_getElem->ra,not_lt->rb,sum_append->ro,count_cons->rq,find?_some->r6,take_left'->sd,findIdx?->tq,toArray->t8,map_id'->t9
open List.Pairwise renaming imp_of_mem->gb,imp₂->qa,nil->qj,filterMap->tu
open List.Perm renaming refl->ik,append_left->kr,trans->oe,swap->sh
open List.cons renaming inj->jt
open Nat renaming le_refl->af,le_trans->a5,ne_of_lt->a7,lt_of_lt_of_le->bz,zero_le->b8,mul_comm->c9,lt_succ_of_lt->dg,pow_le_pow_right->dl,mul_assoc->dt,lt_or_ge->du,lt_irrefl->d7,min_eq_left->eh,lt_of_le_of_lt->fb,lt_succ_self->fc,ne_of_gt->fh,mul_le_mul->fj,le_succ->fm,one_mul->gd,add_mul->gr,sub_add_cancel->gt,lt_of_succ_lt->h9,mul_le_mul_left->ie,gcd->ig,mod_eq_of_lt->ii,le_add_right->il,pow_add->ip,dvd_of_mod_eq_zero->iu,zero_add->ix,gcd_dvd_right->ja,mod_lt->jf,pow_mul->jh,mul_mod->ji,mul_le_mul_right->jj,le_of_lt->jl,add_le_add_left->jp,pos_of_ne_zero->j3,add_comm->ki,pow_succ->kl,add_zero->ko,pow_lt_pow_right->lg,div_add_mod->lj,le_of_eq->lu,mul_zero->lx,sub_zero->ly,add_sub_cancel->l7,mul_div_cancel_left->m4,add_sub_cancel_left->m9,zero_mul->nk,lt_trans->nq,not_lt->nw,div_le_self->oa,gcd_rec->o7,mul_one->o8,pow_pos->o9,add_assoc->pk,mod_mod_of_dvd->pz,add_right_comm->qb,eq_zero_or_pos->qe,sub_self->qo,mul_left_comm->qq,succ_pos->qt,min_le_right->qy,pow_mod->rf,mod_mod->rg,mul_pos->rh,mul_add->ri,gcd_le_left->rl,add_le_add->sf,le_of_dvd->tm
open Option renaming map_eq_some_iff->bi,map_some->lm,isSome_map->qu,getD_none->qz,map->sj
open Option.some renaming inj->ba
open PyProof.Rows renaming boot_sorted->df,callWith_type1->fg,slot_tuple_getitem->ic,boot_isinstance->i0,boot_sum->i8,SetOf_congr->mx
open PyProof.Rows.F renaming plain_set_update_loop->cc,entry_set_update_loop->de
open PySem renaming boot_len->bh,Scope->cy,strKind->e9,mem_of_lookup->gl,intKind->ib,Within->qg,call->se
open PySem.Challenge renaming pw_onceround_k40_whole_rows_numbered->lz
open PySem.EqMixed renaming eq_bool_str->sq,eq_str_bool->sr,ne_bool_str->su,ne_str_bool->sw,eq_int_str->sx,eq_str_int->sy,ne_int_str->tf,ne_str_int->ti
open PySem.F renaming plainAttrs_list->gg,slot_list_append->jx,type_list_append->jy,slot_list_count->j7,plainAttrs_dict->j8,slot_dict_pop->ku,slot_dict_setdefault->ln,slot_dict_values->my,args_dict_pop_3->m8,type_list_count->na,entry_dict_pop->nr
open PySem.NameKind renaming «local»->ai,free->bc,globalImplicit->bo
open PySem.ScopeKind renaming function->a6
open PySem.Str renaming ofString->ac
open PySem.W renaming Frag->ae,nsIn->ao,mg_of->ap,keepIn->av,codeIn->ax,fnOf->a0,mg_none_of->c6,findIn->dz,kia_one->d9,emptyDict->et,instObj->gh,excIn->i6,kitOne->je,hideAll_get->jo,hasDictIn->ke,plainGet->ky,methodObj->mj,plainOver->ml,cellsFrom_some->nj,takerIn->n0,makesIn->n6,OpenLaw->n9,lookIn->oz,of_hideAll->pq,callWith_K->pw,kitx_list->qh,kitx_dict->qi,handedIn->qx,hideAll->rj,WalkO->tj,isFn->tz
open PySem.W.Looks renaming here->ub
open Std.Trichotomous renaming trichotomous->le
open Sum renaming inr->ca,inl->pf
open Sum.inr renaming inj->g0
set_option genSizeOfSpec false
set_option bootstrap.genMatcherCode false
set_option Elab.async false
set_option linter.all false
set_option maxRecDepth 100000
set_option maxHeartbeats 4000000
noncomputable section
namespace L2
open PySem PySem.Spec PyProof.Rows
abbrev Key:=Sum Int Str
def tK:Key->Value->Bool
 | .inl k,v=>Value.isInt k v
 | .inr x,v=>Value.isStrOf x v
def Xm (w:World):Key->Int
 | .inl k=>hashInt k
 | .inr x=>hashStr w x
theorem cQ:∀ {k:Key} {v:Value},tK k v=true->(∃ i t,k=pf i∧v=Value.int i t)∨(∃ x t,k=ca x∧v=Value.str x t)
 | .inl i,v,h=>by
  obtain⟨t,e⟩:=Value.isInt_shape (k:=i) (v:=v) h;exact .inl ⟨i,t,rfl,e⟩
 | .inr x,v,h=>by
  obtain⟨t,e⟩:=Value.isStrOf_shape (x:=x) (v:=v) h;exact .inr ⟨x,t,rfl,e⟩
theorem Jf (i:Int)(t:Tok):tK (.inl i) (.int i t)=true:=by simp[tK,Value.isInt]
theorem Jq (x:Str)(t:Tok):tK (.inr x) (.str x t)=true:=by simp[tK,Value.isStrOf]
theorem Tk (a b:Int):decide ((pf a:Key)=pf b)=(a==b):=by
 by_cases e:a=b
 ·subst e;simp
 ·have h:¬ (pf a:Key)=pf b:=fun q=>e (Sum.inl.inj q)
  rw[decide_eq_false h];exact (beq_eq_false_iff_ne.mpr e).symm
theorem Sk (a b:Str):decide ((ca a:Key)=ca b)=decide (a=b):=by
 by_cases e:a=b
 ·subst e;simp
 ·have h:¬ (ca a:Key)=ca b:=fun q=>e (g0 q)
  rw[decide_eq_false h,decide_eq_false e]
theorem Tp (a:Int)(b:Str):decide ((pf a:Key)=ca b)=false:=decide_eq_false (fun q=>nomatch q)
theorem Ua (a:Str)(b:Int):decide ((ca a:Key)=pf b)=false:=decide_eq_false (fun q=>nomatch q)
def bD (prog:Program)(w:World):PySem.KeyKind prog w Key where
 is:=tK
 hash:=Xm w
 inj:=fun v a b ha hb=>by
  rcases cQ ha with ⟨i,t,rfl,rfl⟩ | ⟨x,t,rfl,rfl⟩
  ·rcases cQ hb with ⟨j,u,rfl,e⟩ | ⟨y,u,rfl,e⟩
   ·injection e with e1 _;rw[e1]
   ·exact nomatch e
  ·rcases cQ hb with ⟨j,u,rfl,e⟩ | ⟨y,u,rfl,e⟩
   ·exact nomatch e
   ·injection e with e1 _;rw[e1]
 byValue:=fun k v h=>by
  rcases cQ h with ⟨i,t,rfl,rfl⟩ | ⟨x,t,rfl,rfl⟩ <;> rfl
 pyHash:=fun hv h=>by
  rcases cQ hv with ⟨i,t,rfl,rfl⟩ | ⟨x,t,rfl,rfl⟩
  ·exact wpAny_pyHash_int h
  ·exact wpAny_pyHash_str h
 eqBool:=fun hu hv h=>by
  rcases cQ hu with ⟨i,t,rfl,rfl⟩ | ⟨x,t,rfl,rfl⟩
  ·rcases cQ hv with ⟨j,u,rfl,rfl⟩ | ⟨y,u,rfl,rfl⟩
   ·rw[Tk] at h;exact wpAny_eqBool_int h
   ·rw[Tp] at h;exact SeqAt.EqAt.int_str i t y u _ _ _ _ h
  ·rcases cQ hv with ⟨j,u,rfl,rfl⟩ | ⟨y,u,rfl,rfl⟩
   ·rw[Ua] at h;exact SeqAt.EqAt.str_int x t j u _ _ _ _ h
   ·rw[Sk] at h;exact wpAny_eqBool_str h
 «strs» := fun k x t v h=>by
  rcases cQ h with ⟨i,u,rfl,e⟩ | ⟨y,u,rfl,e⟩
  ·exact nomatch e
  ·injection e with e1 _
   subst e1;cases v <;> rfl
theorem Bj (prog:Program)(w:World)(i:Int)(t:Tok):(bD prog w).is (.inl i) (.int i t)=true:=Jf i t
theorem Cj (prog:Program)(w:World)(x:Str)(t:Tok):(bD prog w).is (.inr x) (.str x t)=true:=Jq x t
inductive V where
 | non | bl (b:Bool) | int (i:Int) | str (x:Str) | byt (b:Array UInt8) | flt (b:UInt64) | ref (a:Addr) | ty (n:String)
 deriving DecidableEq
def bE:V->Value->Prop
 | .non,u=>u=Value.none
 | .bl b,u=>u=Value.bool b
 | .int i,u=>∃ t,u=Value.int i t
 | .str x,u=>∃ t,u=Value.str x t
 | .byt b,u=>∃ t,u=Value.bytes b t
 | .flt b,u=>∃ t,u=Value.float b t
 | .ref a,u=>u=Value.ref a
 | .ty n,u=>u=Value.type n
abbrev bR:List V->List Value->Prop:=Paired bE
theorem bR.length {xs:List V}{us:List Value}(r:bR xs us):xs.length=us.length:=Paired.length r
theorem bR.get:∀ {xs:List V} {us:List Value} {i:Nat} {x:V},bR xs us->xs[i]?=some x->∃ u,us[i]?=some u∧bE x u
 | _,_,_,_,.nil,e=>by simp at e
 | _,_,0,_,.cons r _,e=>by simp at e;subst e;exact⟨_,rfl,r⟩
 | _,_,i+1,x,.cons _ t,e=>by
  obtain⟨u,h1,h2⟩:=bR.get (i:=i) (x:=x) t (by simpa using e);exact⟨u,by simpa using h1,h2⟩
theorem bR.append:∀ {xs ys:List V} {us ws:List Value},bR xs us->bR ys ws->bR (xs++ys) (us++ws)
 | _,_,_,_,.nil,s=>s
 | _,_,_,_,.cons r t,s=>.cons r (bR.append t s)
theorem bR.take:∀ {xs:List V} {us:List Value} (n:Nat),bR xs us->bR (xs.take n) (us.take n)
 | _,_,0,_=>.nil
 | _,_,_+1,.nil=>.nil
 | _,_,n+1,.cons r t=>.cons r (bR.take n t)
theorem bR.drop:∀ {xs:List V} {us:List Value} (n:Nat),bR xs us->bR (xs.drop n) (us.drop n)
 | _,_,0,r=>r
 | _,_,_+1,.nil=>.nil
 | _,_,n+1,.cons _ t=>bR.drop n t
def jJ:Option V->Option Value->Prop
 | some v,some u=>bE v u
 | none,none=>True
 | _,_=>False
def KV {κ:Type}:List (κ×V)->List (κ×Value)->Prop:=Paired fun (p:κ×V) (q:κ×Value)=>p.1=q.1∧bE p.2 q.2
def kV:Key->V
 | .inl i=>.int i
 | .inr x=>.str x
inductive HO where
 | lst (xs:List V)
 | tup (xs:List V)
 | dK (kvs:List (Key×V)) | dT (kvs:List (List Key×V))
 | set (S:Int->Bool) (n:Nat)
 | ins (C dx:Addr) (fs:List (Str×V))
 | own (x:Addr)
 | xd (fs:List (Str×V))
 | met (f x:Addr)
 | rng (lo hi:Int)
 | frz (o:Obj) (u:HO)
 | tbl (ps:Array Value)
 | ext (φ:Heap->Prop)
abbrev Hp:=Addr->Option HO
def upd (H:Hp)(a:Addr)(o:HO):Hp:=fun b=>if b=a then some o else H b
theorem aE {H:Hp}{a:Addr}{o:HO}:upd H a o a=some o:=by unfold upd;rw[if_pos rfl]
theorem aK {H:Hp}{a b:Addr}{o:HO}(h:b≠a):upd H a o b=H b:=by unfold upd;rw[if_neg h]
theorem He {H:Hp}{a:Addr}{o u:HO}:upd (upd H a o) a u=upd H a u:=by
 funext b;unfold upd;split <;> rfl
theorem Wr {H:Hp}{a b:Addr}{o u:HO}(h:H a=some o)(h':H b=some u)(d:o≠u):a≠b:=by
 intro e;subst e;rw[h] at h';exact d (ba h')
theorem aM {H:Hp}{a b:Addr}{o:HO}(h:H a=some o)(h':H b=none):a≠b:=by
 intro e;subst e;rw[h] at h';cases h'
section
variable (P:Program)(w:World)
def cH (H:Hp)(h:Heap)(a:Addr):HO->Prop
 | .lst xs=>xs.length<=sizeLine∧∃ (its:List Value) (n:Nat),bR xs its∧h.get? a=some { cls:=.type "list",data:=.seq its.toArray n }
 | .tup xs=>xs.length<=sizeLine∧∃ its:List Value,bR xs its∧IsTup h a its.toArray
 | .dK kvs=>kvs.length<=sizeLine∧(a==sysModules)=false∧∃ vs,KV kvs vs∧h.DictOf (bD P w) a vs
 | .dT kvs=>kvs.length<=sizeLine∧(a==sysModules)=false∧∃ xs:List (List Key×Addr×Value),
  Paired (fun (p:List Key×V) (q:List Key×Addr×Value)=>p.1=q.1∧H q.2.1=some (.tup (p.1.map kV))∧bE p.2 q.2.2) kvs xs ∧
  ∃ o es ep,h.get? a=some o∧o.ExactDict∧o.data = .dict es ep∧es.toList=xs.map (entryOfKey (tupleKind (bD P w)))∧(xs.map (·.1)).Nodup
 | .set S n=>h.SetOf (intKind P w) a S n
 | .ins C dx fs=>H dx=some (.own a)∧fs.length<=1000∧dx≠a∧h.get? a=some (gh C dx) ∧
  ∃ mA,h.Ns1 dx mA∧(∀ f,jJ (fs.lookup f) (mA f))∧qg mA (fs.map (·.1))
 | .own _=>∃ o,h.get? a=some o
 | .xd fs=>∃ mA,h.Ns1 a mA∧∀ f,jJ (fs.lookup f) (mA f)
 | .rng lo hi=>∃ t u v,h.get? a=some { cls:=.type "range",data:=.fields #[.int lo t,.int hi u,.int 1 v] }
 | .frz o u=>h.get? a=some o∧cH H h a u
 | .tbl ps=>h.get? a=some { cls:=.none,data:=.fields ps }
 | .met f x=>h.get? a=some (mj (.ref f) (.ref x))
 | .ext φ=>φ h∧(∃ o,h.get? a=some o)∧∀ h1 h2:Heap,φ h1->(∀ o,h1.get? a=some o->h2.get? a=some o)->φ h2
def HOk (H:Hp)(h:Heap):Prop:=∀ a o,H a=some o->cH P w H h a o
end
section
variable {P:Program}{w:World}{H H':Hp}{h h':Heap}{a:Addr}{o:HO}
theorem cH.lt (x:cH P w H h a o):a<h.objs.size:=by
 cases o with
 | lst xs=>obtain⟨_,_,_,_,e⟩:=x;exact Heap.lt_size e
 | tup xs=>obtain⟨_,_,_,p⟩:=x;exact p.lt
 | dK kvs=>obtain⟨_,_,_,_,o,_,_,e,_⟩:=x;exact Heap.lt_size e
 | dT kvs=>obtain⟨_,_,_,_,o,_,_,e,_⟩:=x;exact Heap.lt_size e
 | set S n=>obtain⟨o,_,_,_,e,_⟩:=x;exact Heap.lt_size e
 | ins C dx fs=>obtain⟨_,_,_,e,_⟩:=x;exact Heap.lt_size e
 | own y=>obtain⟨_,e⟩:=x;exact Heap.lt_size e
 | xd fs=>obtain⟨_,⟨_,_,_,e,_⟩,_⟩:=x;exact Heap.lt_size e
 | rng lo hi=>obtain⟨_,_,_,e⟩:=x;exact Heap.lt_size e
 | frz ob u=>obtain⟨e,_⟩:=x;exact Heap.lt_size e
 | tbl ps=>exact Heap.lt_size (show h.get? a=some _ from x)
 | met f y=>exact Heap.lt_size (show h.get? a=some _ from x)
 | ext φ=>obtain⟨_,⟨_,e⟩,_⟩:=x;exact Heap.lt_size e
theorem Paired.mapP {α β:Type}{F G:α->β->Prop}:∀ {l₁:List α} {l₂:List β},Paired F l₁ l₂->(∀ a b,F a b->G a b)->Paired G l₁ l₂
 | _,_,.nil,_=>.nil
 | _,_,.cons r t,f=>.cons (f _ _ r) (Paired.mapP t f)
theorem cH.stay (x:cH P w H h a o)(k:∀ b u,(b=a∨H b=some (.own a))->h.get? b=some u->h'.get? b=some u)
  (ho:∀ b,H b=some (.own a)->H' b=some (.own a)) (ht:∀ b xs,H b=some (.tup xs)->H' b=some (.tup xs)):cH P w H' h' a o:=by
 induction o with
 | lst xs=>obtain⟨z,its,n,r,e⟩:=x;exact⟨z,its,n,r,k _ _ (.inl rfl) e⟩
 | tup xs=>obtain⟨z,its,r,ob,e,c⟩:=x;exact⟨z,its,r,ob,k _ _ (.inl rfl) e,c⟩
 | dK kvs=>obtain⟨z,y,vs,r,ob,es,ep,e,c⟩:=x;exact⟨z,y,vs,r,ob,es,ep,k _ _ (.inl rfl) e,c⟩
 | dT kvs =>
  obtain⟨z,y,xs,r,ob,es,ep,e,c⟩:=x;exact⟨z,y,xs,Paired.mapP r fun p q z=>⟨z.1,ht _ _ z.2.1,z.2.2⟩,ob,es,ep,k _ _ (.inl rfl) e,c⟩
 | set S n=>obtain⟨ob,es,ep,t,e,c⟩:=x;exact⟨ob,es,ep,t,k _ _ (.inl rfl) e,c⟩
 | ins C dx fs =>
  obtain⟨d,z,ne,e,mA,⟨od,es,ep,e2,c⟩,r⟩:=x;exact⟨ho _ d,z,ne,k _ _ (.inl rfl) e,mA,⟨od,es,ep,k _ _ (.inr d) e2,c⟩,r⟩
 | own y=>obtain⟨ob,e⟩:=x;exact⟨ob,k _ _ (.inl rfl) e⟩
 | xd fs=>obtain⟨mA,⟨od,es,ep,e,c⟩,r⟩:=x;exact⟨mA,⟨od,es,ep,k _ _ (.inl rfl) e,c⟩,r⟩
 | rng lo hi=>obtain⟨t,u,v,e⟩:=x;exact⟨t,u,v,k _ _ (.inl rfl) e⟩
 | frz ob u ih=>obtain⟨e,q⟩:=x;exact⟨k _ _ (.inl rfl) e,ih q⟩
 | tbl ps =>
  have e:h.get? a=some { cls:=.none,data:=.fields ps }:=x;show h'.get? a=some { cls:=.none,data:=.fields ps };exact k a _ (.inl rfl) e
 | met f y =>
  have e:h.get? a=some (mj (.ref f) (.ref y)):=x;show h'.get? a=some (mj (.ref f) (.ref y));exact k a _ (.inl rfl) e
 | ext φ=>obtain⟨p,⟨o,e⟩,st⟩:=x;exact⟨st _ _ p fun o q=>k _ _ (.inl rfl) q,⟨o,k _ _ (.inl rfl) e⟩,st⟩
theorem HOk.lt (x:HOk P w H h)(e:H a=some o):a<h.objs.size:=(x a o e).lt
theorem HOk.fresh (x:HOk P w H h)(e:h.objs.size<=a):H a=none:=by
 cases q:H a with
 | none=>rfl
 | some u=>exact absurd (bz (x.lt q) e) (d7 _)
theorem HOk.kept (x:HOk P w H h)(k:∀ b u,h.get? b=some u->h'.get? b=some u):HOk P w H h':=fun a o e =>
 (x a o e).stay (fun b u _ q=>k b u q) (fun _ q=>q) fun _ _ q=>q
theorem HOk.laid (x:HOk P w H h)(k:∀ b u,h.get? b=some u->h'.get? b=some u)(hp:h.objs.size<=a)(new:cH P w (upd H a o) h' a o):HOk P w (upd H a o) h':=fun b u e=>by
 have hn:=x.fresh hp;by_cases hb:b=a
 ·subst hb;rw[aE] at e;cases e;exact new
 ·rw[aK hb] at e
  exact (x b u e).stay (fun c v _ q=>k c v q) (fun c q=>by rw[aK (aM q hn)];exact q) fun c xs q=>by rw[aK (aM q hn)];exact q
end
def Rd (H:Hp)(a:Addr)(u:HO):Prop:=H a=some u∨∃ o,H a=some (.frz o u)
theorem Rd.ok {P:Program}{w:World}{H:Hp}{h:Heap}{a:Addr}{u:HO}(r:Rd H a u)(x:HOk P w H h):cH P w H h a u:=by
 rcases r with r | ⟨o,r⟩
 ·exact x a u r
 ·obtain⟨_,q⟩:=x a _ r
  exact q
def Mut:Option HO->Prop
 | some (.lst _)=>True
 | some (.dK _)=>True
 | some (.dT _)=>True
 | some (.set _ _)=>True
 | some (.ins _ _ _)=>True
 | some (.ext _)=>True
 | _=>False
section
variable {P:Program}{w:World}{H:Hp}{h h':Heap}{x e:Addr}{o':HO}
theorem HOk.write (ok:HOk P w H h)(mu:Mut (H x))(he:e=x∨H e=some (.own x))(k:∀ b u,b≠e->h.get? b=some u->h'.get? b=some u)(heo:∃ u,h'.get? e=some u)
  (new:cH P w (upd H x o') h' x o'):HOk P w (upd H x o') h':=fun b u q=>by
 have nown:∀ c y,H c=some (.own y)->c≠x:=fun c y r z=>by subst z;rw[r] at mu;exact mu
 have ntup:∀ c xs,H c=some (.tup xs)->c≠x:=fun c xs r z=>by subst z;rw[r] at mu;exact mu
 by_cases hb:b=x
 ·subst hb;rw[aE] at q;cases q;exact new
 ·rw[aK hb] at q
  by_cases hbe:b=e
  ·have q':H b=some (.own x):=by
    rcases he with z | z
    ·exact absurd (hbe.trans z) hb
    ·rw[hbe];exact z
   rw[q] at q';cases q';obtain⟨v,hv⟩:=heo;exact⟨v,by rw[hbe];exact hv⟩
  ·refine (ok b u q).stay (fun c v hc r=>k c v ?_ r) (fun c r=>by rw[aK (nown c b r)];exact r) fun c xs r=>by rw[aK (ntup c xs r)];exact r
   rcases hc with rfl | hc
   ·exact hbe
   ·rintro rfl
    rcases he with z | z
    ·exact nown c b hc z
    ·rw[hc] at z;cases z;exact hb rfl
end
structure Un (fs ex:List Addr)(H H':Hp)(h h':Heap):Prop where
 keep:∀ b o,h.get? b=some o->H b=none->b∉fs->b∉ex->h'.get? b=some o
 slot:∀ b o,h.get? b=some o->H b=none->b∈fs->b∉ex->∃ sl,h'.get? b=some { o with slots:=sl }
 free:∀ b o,h.get? b=some o->H b=none->b∉ex->H' b=none
 there:∀ b o,h.get? b=some o->b∉ex->∃ o',h'.get? b=some o'
 tups:∀ b xs,H b=some (.tup xs)->H' b=some (.tup xs)
 frzs:∀ b o u,H b=some (.frz o u)->H' b=some (.frz o u)
 tbls:∀ b ps,H b=some (.tbl ps)->∃ more,H' b=some (.tbl (ps++more))
section
variable {fs fs' ex ex':List Addr}{H H1 H2:Hp}{h h1 h2 h':Heap}{a x e:Addr}{o:HO}
theorem Un.any (u:Un fs ex H H1 h h1){b:Addr}{ob:Obj}(q:h.get? b=some ob)(n:H b=none)(hx:b∉ex):∃ sl,h1.get? b=some { ob with slots:=sl }:=by
 by_cases hb:b∈fs
 ·exact u.slot b ob q n hb hx
 ·exact⟨ob.slots,u.keep b ob q n hb hx⟩
theorem Un.kept (k:∀ b u,h.get? b=some u->h'.get? b=some u):Un fs ex H H h h' :=
 ⟨fun b ob q _ _ _=>k b ob q,fun b ob q _ _ _=>⟨ob.slots,k b ob q⟩,fun _ _ _ n _=>n,fun b ob q _=>⟨ob,k b ob q⟩,fun _ _ q=>q,fun _ _ _ q=>q,fun _ ps q=>⟨#[],by rw[q];simp⟩⟩
theorem Un.refl:Un fs ex H H h h:=Un.kept fun _ _ q=>q
theorem Un.laid (k:∀ b u,h.get? b=some u->h'.get? b=some u)(hp:h.objs.size<=a)(hn:H a=none):Un fs ex H (upd H a o) h h' where
 keep:=fun b u q _ _ _=>k b u q
 slot:=fun b u q _ _ _=>⟨u.slots,k b u q⟩
 free:=fun b u q n _=>by rw[aK (a7 (bz (Heap.lt_size q) hp))];exact n
 there:=fun b u q _=>⟨u,k b u q⟩
 tups:=fun b xs q=>by rw[aK (aM q hn)];exact q
 frzs:=fun b u xs q=>by rw[aK (aM q hn)];exact q
 tbls:=fun b ps q=>⟨#[],by rw[aK (aM q hn),q];simp⟩
theorem Un.write (mu:Mut (H x))(he:e=x∨H e=some (.own x))(k:∀ b u,b≠e->h.get? b=some u->h'.get? b=some u)(heo:∃ u,h'.get? e=some u):Un fs ex H (upd H x o) h h':=by
 have hx:∀ b,H b=none->b≠x:=fun b n z=>by subst z;rw[n] at mu;exact mu
 have hb:∀ b,H b=none->b≠e:=fun b n z=>by
  subst z;rcases he with r | r
  ·exact hx b n r
  ·rw[n] at r;cases r
 have hm:∀ b u,H b=some u->¬ Mut (some u)->b≠x:=fun b u q nm z=>by subst z;rw[q] at mu;exact nm mu
 refine⟨fun b u q n _ _=>k b u (hb b n) q,fun b u q n _ _=>⟨u.slots,k b u (hb b n) q⟩,fun b u q n _=>by rw[aK (hx b n)];exact n,fun b u q _=>?_,
  fun b xs q=>by rw[aK (hm b _ q fun z=>z)];exact q,fun b u xs q=>by rw[aK (hm b _ q fun z=>z)];exact q,fun b ps q=>⟨#[],by rw[aK (hm b _ q fun z=>z),q];simp⟩⟩
 by_cases hbe:b=e
 ·subst hbe;exact heo
 ·exact⟨u,k b u hbe q⟩
end
def trk (h:Heap)(H:Hp):List Addr:=(cf h.objs.size).filter fun a=>(H a).isSome
def xR (h:Heap)(H:Hp):Heap:=rj h (trk h H)
theorem Ie (h:Heap)(H:Hp):(xR h H).objs.size=h.objs.size:=PySem.W.hideAll_size _ _
theorem Ln {h:Heap}{H:Hp}{b:Addr}{o:Obj}(e:h.get? b=some o)(n:H b=none):(xR h H).get? b=some o :=
 jo _ e fun hm=>by
  have q:(H b).isSome=true:=(d8.mp hm).2;rw[n] at q;simp at q
theorem Qq {h:Heap}{H:Hp}{b:Addr}{o:Obj}(e:(xR h H).get? b=some o):h.get? b=some o∧H b=none:=by
 have e':h.get? b=some o:=pq (trk h H) e;refine⟨e',?_⟩
 cases q:H b with
 | none=>rfl
 | some x =>
  have hm:b∈trk h H:=d8.mpr ⟨cx.mpr (Heap.lt_size e'),by simp[q]⟩;have z:(xR h H).get? b=none:=PySem.W.hideAll_none (trk h H) hm;rw[z] at e;cases e
def Pd (g h:Heap)(L:Addr):List (Addr×Obj):=(cf h.objs.size).filterMap fun a=>if a=L∨(g.get? a).isSome=true then none else (h.get? a).map fun o=>(a,o)
def rest (g h:Heap)(L d:Addr):List (Addr×Obj):=(Pd g h L).filter fun p=>decide (p.1≠d)
structure Mod (K:ae)(mg:Str->Option Value)(base:Heap):Prop where
 kin:K.In base
 glob:base.Ns mainGlobals mg
 blt:∃ mb,base.Ns builtinsNs mb∧∀ x:Str,x ≠ "__name__" -> mb x=bootBuiltins x
 nolimit:base.NoLimit
structure Cx where
 prog:Program
 w:World
 K:ae
 mg:Str->Option Value
 base:Heap
 A:Around
 N:List Str
 s₀:Shared
 H₀:Hp
 env:Env
 outer:List Env
 stack:List Env
 ex:List Addr
 fn:Str->Bool
 calm:Bool
 pn:List (Addr×Obj)
 xe:Value->Shared->Prop
def frs (l:List Env):List Addr:=l.filterMap (·.frame)
abbrev Cx.fs (X:Cx):List Addr:=frs X.outer
def Vis (sc:Scope)(x:Str):Prop:=sc.names.lookup x=some .local∨sc.names.lookup x=some .cell∨sc.names.lookup x=some .free
def Loc (sc:Scope)(x:Str):Prop:=sc.names.lookup x=some .local∨sc.names.lookup x=some .cell
def Wu (env:Env)(h:Heap)(m:Str->Option Value)(x:Str)(u:Value):Prop :=
 (env.kindOf x=some .local∧m x=some u)∨((env.kindOf x=some .cell∨env.kindOf x=some .free)∧∃ c,env.cells.lookup x=some c∧h.IsCell c (some u))
structure Cx.Ok (X:Cx):Prop where
 mod:Mod X.K X.mg X.base
 kind:X.env.scope.kind = .function
 glob:X.env.globals=mainGlobals
 blt:X.env.builtins=builtinsNs
 above:X.s₀.heap.objs.size<=X.env.locals
 inj:∀ x y c,X.env.cells.lookup x=some c->X.env.cells.lookup y=some c->x=y
 has:∀ x,(X.env.kindOf x=some .cell∨X.env.kindOf x=some .free)->∃ c,X.env.cells.lookup x=some c
 cab:∀ x c,X.fn x=true->X.env.cells.lookup x=some c->X.s₀.heap.objs.size<=c
 hd:X.calm=true->X.A.handled=none
 frames:X.A.frames=some X.stack
 stk:X.stack=X.outer∨(X.stack=X.env::X.outer∧X.env.frame=some X.env.locals)
 exf:∀ b∈X.ex,b≠X.env.locals∧∀ x c,X.env.cells.lookup x=some c->c≠b
 bs:∀ b o,X.base.get? b=some o->X.s₀.heap.get? b=some o∧X.H₀ b=none
 bsz:X.base.objs.size<=X.s₀.heap.objs.size
 noex:∀ b o,X.base.get? b=some o->b∉X.ex
 exfs:∀ b∈X.ex,b∉X.fs
 funs:X.s₀.heap.FunFrames X.base X.outer
 frf:∀ b∈X.fs,X.H₀ b=none
structure Inv (X:Cx)(pins:List (Addr×Obj))(σ:List (Option V))(H:Hp)(s:Shared):Prop where
 ok:X.Ok
 os:s.os=X.s₀.os
 bare:AllBare s.gens
 base:Un X.fs X.ex X.H₀ H X.s₀.heap s.heap
 loc:∃ m,s.heap.Ns X.env.locals m∧∀ (i:Nat) (x:Str) (v:V),X.N[i]?=some x->σ[i]?=some (some v)->Vis X.env.scope x->∃ u,bE v u∧Wu X.env s.heap m x u
 cell:∀ x c,X.env.cells.lookup x=some c->∃ v,s.heap.IsCell c v
 free:H X.env.locals=none
 freeC:∀ x c,X.env.cells.lookup x=some c->H c=none
 pin:∀ p∈X.pn++pins,s.heap.get? p.1=some p.2∧H p.1=none∧p.1≠X.env.locals∧p.1∉X.fs∧∀ v,p.2.data≠.cell v
 hok:HOk X.prog X.w H s.heap
 len:σ.length=X.N.length
section
variable {X:Cx}{pins:List (Addr×Obj)}{σ:List (Option V)}{H H':Hp}{s:Shared}{h':Heap}
theorem Cx.Ok.nofr (ok:X.Ok){b:Addr}{o:Obj}(e:X.base.get? b=some o):b∉X.fs:=fun hb=>by
 have:=(ok.funs.mem hb).1
 rw[e] at this;cases this
theorem Inv.bs (I:Inv X pins σ H s):∀ b o,X.base.get? b=some o->s.heap.get? b=some o∧H b=none:=fun b o e =>
 ⟨I.base.keep b o (I.ok.bs b o e).1 (I.ok.bs b o e).2 (I.ok.nofr e) (I.ok.noex b o e),I.base.free b o (I.ok.bs b o e).1 (I.ok.bs b o e).2 (I.ok.noex b o e)⟩
theorem Inv.bk (I:Inv X pins σ H s):∀ b o,X.base.get? b=some o->s.heap.get? b=some o:=fun b o e=>(I.bs b o e).1
theorem Inv.mod (I:Inv X pins σ H s):Mod X.K X.mg X.base:=I.ok.mod
theorem Inv.kIn (I:Inv X pins σ H s):X.K.In s.heap:=I.ok.mod.kin.keeps I.bk
theorem Inv.lt (I:Inv X pins σ H s):X.env.locals<s.heap.objs.size:=let ⟨_,hn,_⟩:=I.loc;hn.lt
theorem Inv.sz (I:Inv X pins σ H s):X.s₀.heap.objs.size<=s.heap.objs.size:=a5 I.ok.above (jl I.lt)
theorem Inv.nofs (I:Inv X pins σ H s){a:Addr}(h:s.heap.objs.size<=a):a∉X.fs:=fun hb=>by
 obtain⟨_,o,ho,_⟩:=I.ok.funs.mem hb;exact absurd (bz (Heap.lt_size ho) (a5 I.sz h)) (d7 _)
theorem Inv.cne (I:Inv X pins σ H s):∀ x c,X.env.cells.lookup x=some c->c≠X.env.locals:=fun x c e z=>by
 obtain⟨v,o,ho,hd⟩:=I.cell x c e;obtain⟨m,⟨o',es,ep,ho',hd',_⟩,_⟩:=I.loc;rw[z,ho'] at ho;cases ho;rw[hd'] at hd;cases hd
theorem Inv.funs (I:Inv X pins σ H s):s.heap.FunFrames X.base X.outer:=by
 have all:∀ (l:List Env),(∀ b∈frs l,b∈X.fs)->X.s₀.heap.FunFrames X.base l->s.heap.FunFrames X.base l:=by
  intro l
  induction l with
  | nil=>intro _ _;trivial
  | cons env r ih =>
   intro hs hl;obtain⟨hk,⟨L,o,hf,hn,ho,hd⟩,hr⟩:=hl;have hL:L∈X.fs:=hs L (by unfold frs;rw[gk,hf];exact ar);obtain⟨sl,e⟩:=I.base.slot L o ho (I.ok.frf L hL) hL fun z=>I.ok.exfs L z hL
   exact⟨hk,⟨L,_,hf,hn,e,hd⟩,ih (fun b hb=>hs b (by unfold frs;rw[gk,hf];exact ah _ hb)) hr⟩
 exact all X.outer (fun _ hb=>hb) I.ok.funs
theorem Inv.stack (I:Inv X pins σ H s):s.heap.FunFrames X.base X.stack:=by
 rcases I.ok.stk with e | ⟨e,hf⟩
 ·rw[e];exact I.funs
 ·rw[e]
  obtain⟨m,hn,_⟩:=I.loc;refine .cons (by rw[I.ok.kind];decide) hf hn ?_ I.funs;exact Heap.get?_none_of_le (a5 I.ok.bsz I.ok.above)
theorem Inv.stkSub (I:Inv X pins σ H s):∀ b∈frs X.stack,b∈X.env.locals::X.fs:=fun b hb=>by
 rcases I.ok.stk with e | ⟨e,hf⟩
 ·rw[e] at hb;exact ah _ hb
 ·rw[e] at hb
  unfold frs at hb;rw[gk,hf] at hb;exact hb
theorem Inv.stkFree (I:Inv X pins σ H s):∀ b∈frs X.stack,H b=none:=fun b hb=>by
 rcases aw.mp (I.stkSub b hb) with e | hb
 ·rw[e];exact I.free
 ·obtain⟨_,o,ho,_⟩:=I.ok.funs.mem hb
  exact I.base.free b o ho (I.ok.frf b hb) fun z=>I.ok.exfs b z hb
theorem Inv.step {g':Array GenState}{t':Nat}{d':Drawn}{ch:List Addr}(I:Inv X pins σ H s)
  (hch:∀ b∈ch,(b∈X.ex∨X.s₀.heap.objs.size<=b)∧b≠X.env.locals∧(∀ x c,X.env.cells.lookup x=some c->c≠b)∧∀ p∈X.pn++pins,p.1≠b)
  (keep:∀ b o,b≠X.env.locals->b∉X.fs->b∉ch->s.heap.get? b=some o->H b=none->h'.get? b=some o)
  (slot:∀ b o,b≠X.env.locals->b∈X.fs->b∉ch->s.heap.get? b=some o->H b=none->∃ sl,h'.get? b=some { o with slots:=sl }) (free:∀ b o,b∉ch->s.heap.get? b=some o->H b=none->H' b=none)
  (there:∀ b o,b∉ch->s.heap.get? b=some o->∃ o',h'.get? b=some o')
  (tups:∀ b xs,H b=some (.tup xs)->H' b=some (.tup xs)) (frzs:∀ b o u,H b=some (.frz o u)->H' b=some (.frz o u)) (tbls:∀ b ps,H b=some (.tbl ps)->∃ more,H' b=some (.tbl (ps++more)))
  (ns:∀ m,s.heap.Ns X.env.locals m->h'.Ns X.env.locals m) (hok:HOk X.prog X.w H' h') (hg:AllBare g') :
  Inv X pins σ H' { s with heap:=h',gens:=g',drawn:=d',toks:=t' }:=by
 have neL:∀ b o,X.s₀.heap.get? b=some o->b≠X.env.locals:=fun b o e=>a7 (bz (Heap.lt_size e) I.ok.above)
 have neC:∀ b o,X.s₀.heap.get? b=some o->b∉X.ex->b∉ch:=fun b o e hx hb=>by
  rcases (hch b hb).1 with z | z
  ·exact hx z
  ·exact absurd (bz (Heap.lt_size e) z) (d7 _)
 have cellK:∀ x c,X.env.cells.lookup x=some c->∀ v,s.heap.IsCell c v->h'.IsCell c v:=fun x c e v ⟨o,ho,hd⟩=>by
  have nch:c∉ch:=fun z=>(hch c z).2.2.1 x c e rfl
  by_cases hc:c∈X.fs
  ·obtain⟨sl,q⟩:=slot c o (I.cne x c e) hc nch ho (I.freeC x c e)
   exact⟨_,q,hd⟩
  ·exact⟨o,keep c o (I.cne x c e) hc nch ho (I.freeC x c e),hd⟩
 refine⟨I.ok,I.os,hg,⟨fun b o e n hb hx=>?_,fun b o e n hb hx=>?_,fun b o e n hx=>?_,fun b o e hx=>?_,fun b xs e=>tups b xs (I.base.tups b xs e),fun b o xs e=>frzs b o xs (I.base.frzs b o xs e),fun b ps e=>?_⟩,?_,fun x c e=>?_,?_,fun x c e=>?_,fun p hp=>?_,hok,I.len⟩
 ·exact keep b o (neL b o e) hb (neC b o e hx) (I.base.keep b o e n hb hx) (I.base.free b o e n hx)
 ·obtain⟨sl,e1⟩:=I.base.slot b o e n hb hx
  obtain⟨sl',e2⟩:=slot b _ (neL b o e) hb (neC b o e hx) e1 (I.base.free b o e n hx);exact⟨sl',e2⟩
 ·obtain⟨o',e1⟩:=I.base.there b o e hx
  exact free b o' (neC b o e hx) e1 (I.base.free b o e n hx)
 ·obtain⟨o',e1⟩:=I.base.there b o e hx
  exact there b o' (neC b o e hx) e1
 ·obtain⟨m1,e1⟩:=I.base.tbls b ps e
  obtain⟨m2,e2⟩:=tbls b _ e1;exact⟨m1++m2,by rw[e2,l0]⟩
 ·obtain⟨m,hn,hl⟩:=I.loc
  refine⟨m,ns m hn,fun i x v e1 e2 e3=>?_⟩;obtain⟨u,r,l⟩:=hl i x v e1 e2 e3;refine⟨u,r,?_⟩;rcases l with l | ⟨k,c,e,z⟩
  ·exact .inl l
  ·exact .inr ⟨k,c,e,cellK x c e _ z⟩
 ·obtain⟨v,z⟩:=I.cell x c e
  exact⟨v,cellK x c e v z⟩
 ·obtain⟨m,⟨o,_,_,ho,_⟩,_⟩:=I.loc
  exact free _ o (fun z=>(hch _ z).2.1 rfl) ho I.free
 ·obtain⟨v,o,ho,hd⟩:=I.cell x c e
  exact free c o (fun z=>(hch c z).2.2.1 x c e rfl) ho (I.freeC x c e)
 ·obtain⟨e,n,ne,nf,d⟩:=I.pin p hp
  have nch:p.1∉ch:=fun z=>(hch p.1 z).2.2.2 p hp rfl
  exact⟨keep p.1 p.2 ne nf nch e n,free p.1 p.2 nch e n,ne,nf,d⟩
theorem Inv.un {t':Nat}(I:Inv X pins σ H s)(u:Un X.fs [] H H' s.heap h')(hok:HOk X.prog X.w H' h'):Inv X pins σ H' { s with heap:=h',toks:=t' }:=by
 obtain⟨m,⟨o,es,ep,ho,r⟩,_⟩:=id I.loc;obtain⟨sl,hL⟩:=u.any ho I.free (by simp);exact I.step (g':=s.gens) (d':=s.drawn) (ch:=[]) (fun _ z=>nomatch z) (fun b o _ hb _ e n=>u.keep b o e n hb (by simp)) (fun b o _ hb _ e n=>u.slot b o e n hb (by simp)) (fun b o _ e n=>u.free b o e n (by simp)) (fun b o _ e=>u.there b o e (by simp)) u.tups u.frzs u.tbls (fun m' hm=>by
  obtain⟨o',es',ep',ho',r'⟩:=hm;rw[ho] at ho';cases ho';exact⟨_,es',ep',hL,r'⟩) hok I.bare
theorem Inv.call {g':Array GenState}{t':Nat}{d':Drawn}{ch:List Addr}(I:Inv X pins σ H s)(u:Un (frs X.stack) ch H H' s.heap h')(hok:HOk X.prog X.w H' h')(hg:AllBare g')
  (hch:∀ b∈ch,(b∈X.ex∨X.s₀.heap.objs.size<=b)∧b≠X.env.locals∧(∀ x c,X.env.cells.lookup x=some c->c≠b)∧∀ p∈X.pn++pins,p.1≠b) :
  Inv X pins σ H' { s with heap:=h',gens:=g',drawn:=d',toks:=t' }:=by
 obtain⟨m,⟨o,es,ep,ho,r⟩,_⟩:=id I.loc;obtain⟨sl,hL⟩:=u.any ho I.free fun z=>(hch _ z).2.1 rfl
 exact I.step (ch:=ch) hch (fun b o hL hb hc e n=>u.keep b o e n (fun z=>(aw.mp (I.stkSub b z)).elim hL hb) hc) (fun b o _ _ hc e n=>u.any e n hc) (fun b o hc e n=>u.free b o e n hc) (fun b o hc e=>u.there b o e hc) u.tups u.frzs u.tbls (fun m' hm=>by
  obtain⟨o',es',ep',ho',r'⟩:=hm;rw[ho] at ho';cases ho';exact⟨_,es',ep',hL,r'⟩) hok hg
theorem Inv.turned {t':Nat}{it:Addr}(I:Inv X pins σ H s)(k:∀ b o,b≠it->s.heap.get? b=some o->h'.get? b=some o)(hn:H it=none)(hL:it≠X.env.locals)
  (h1:it∈X.ex∨X.s₀.heap.objs.size<=it) (h2:∀ x c,X.env.cells.lookup x=some c->c≠it) (h3:∀ p∈X.pn++pins,p.1≠it):Inv X pins σ H { s with heap:=h',toks:=t' }:=by
 have nit:∀ b u,H b=some u->b≠it:=fun b u e z=>by rw[z,hn] at e;cases e
 refine I.step (g':=s.gens) (d':=s.drawn) (ch:=[it]) (fun b hb=>?_) (fun b o _ _ hc e _=>k b o (fun z=>hc (by simp[z])) e) (fun b o _ _ hc e _=>⟨o.slots,k b o (fun z=>hc (by simp[z])) e⟩) (fun _ _ _ _ n=>n)
  (fun b o hc e=>⟨o,k b o (fun z=>hc (by simp[z])) e⟩) (fun _ _ e=>e) (fun _ _ _ e=>e) (fun b ps e=>⟨#[],by rw[e];simp⟩) (fun m hm=>?_) (fun b u e=>?_) I.bare
 ·have e:b=it:=by simpa using hb
  subst e;exact⟨h1,hL,h2,h3⟩
 ·obtain⟨o,es,ep,ho,r⟩:=hm
  exact⟨o,es,ep,k _ o (Ne.symm hL) ho,r⟩
 ·refine (I.hok b u e).stay (fun c v hc q=>k c v ?_ q) (fun _ q=>q) fun _ _ q=>q
  rcases hc with z | z
  ·rw[z];exact nit b u e
  ·exact nit c _ z
theorem Inv.tok (I:Inv X pins σ H s)(t:Nat):Inv X pins σ H { s with toks:=t }:=I.un (h':=s.heap) (t':=t) Un.refl I.hok
theorem Inv.kept {t':Nat}(I:Inv X pins σ H s)(k:∀ b u,s.heap.get? b=some u->h'.get? b=some u):Inv X pins σ H { s with heap:=h',toks:=t' }:=I.un (Un.kept k) (I.hok.kept k)
theorem Inv.laid {a:Addr}{o:HO}{t':Nat}(I:Inv X pins σ H s)(k:∀ b u,s.heap.get? b=some u->h'.get? b=some u)(hp:s.heap.objs.size<=a)(new:cH X.prog X.w (upd H a o) h' a o) :
 Inv X pins σ (upd H a o) { s with heap:=h',toks:=t' }:=I.un (Un.laid k hp (I.hok.fresh hp)) (I.hok.laid k hp new)
theorem Inv.write {x e:Addr}{o:HO}{t':Nat}(I:Inv X pins σ H s)(mu:Mut (H x))(he:e=x∨H e=some (.own x))(k:∀ b u,b≠e->s.heap.get? b=some u->h'.get? b=some u)(heo:∃ u,h'.get? e=some u)
 (new:cH X.prog X.w (upd H x o) h' x o):Inv X pins σ (upd H x o) { s with heap:=h',toks:=t' }:=I.un (Un.write mu he k heo) (I.hok.write mu he k heo new)
theorem Inv.pins_of {pins':List (Addr×Obj)}(I:Inv X pins σ H s)(h:∀ p∈pins',s.heap.get? p.1=some p.2∧H p.1=none∧p.1≠X.env.locals∧p.1∉X.fs∧∀ v,p.2.data≠.cell v):Inv X pins' σ H s :=
 ⟨I.ok,I.os,I.bare,I.base,I.loc,I.cell,I.free,I.freeC,fun p hp=>(bj.mp hp).elim (fun z=>I.pin p (gc _ z)) (h p),I.hok,I.len⟩
theorem An {N:List Str}(hN:N.Nodup){i j:Nat}{x:Str}(a:N[i]?=some x)(b:N[j]?=some x):i=j:=by
 obtain⟨h1,e1⟩:=ag.mp a;obtain⟨h2,e2⟩:=ag.mp b;exact (List.getElem_inj hN).mp (e1.trans e2.symm)
theorem wG {M:Model}{A:Around}{E:Value->Shared->Prop}{i:Nat}{x:Str}{v:V}{u:Value}{Q:Unit->Shared->Prop}(I:Inv X pins σ H s)(hN:X.N.Nodup)(hi:X.N[i]?=some x)(hx:Loc X.env.scope x)(r:bE v u)
  (h:∀ s',Inv X pins (σ.set i (some v)) H s'->(∃ a,Heap.SameBut a s.heap s'.heap∧(a=X.env.locals∨X.env.cells.lookup x=some a))->Q () s') (hf:X.fn x=true∨X.env.scope.names.lookup x=some .local:=by first | exact .inl rfl | exact .inr rfl | assumption):wpAny M A (storeName X.env x u) Q E s:=by
 obtain⟨m,hn,hl⟩:=id I.loc;have hcls:(X.env.scope.kind == .class||(X.env.scope.kind == .module&&X.env.locals != X.env.globals))=false:=by rw[I.ok.kind];rfl
 have hiσ:i<σ.length:=by rw[I.len];exact (ag.mp hi).1
 have cne:=I.cne;have tracked:∀ {a:Addr} {h':Heap},(∃ o,s.heap.get? a=some o∧H a=none)->Heap.SameBut a s.heap h'->HOk X.prog X.w H h':=fun {a h'} ha hs b ob e=>by
  obtain⟨_,_,hfree⟩:=ha;refine (I.hok b ob e).stay (fun c w' hc q=>(hs.2 c ?_).trans q) (fun _ q=>q) fun _ _ q=>q
  rintro rfl;rcases hc with rfl | hc
  ·rw[hfree] at e;cases e
  ·rw[hfree] at hc;cases hc
 rcases hx with hk | hk
 ·refine wpAny_storeName_local hk hn (fun h' hn' hs=>?_) hcls
  obtain⟨oL,_,_,hoL,_⟩:=id hn;refine h _ ⟨I.ok,I.os,I.bare,⟨fun b o e n hb hx=>?_,fun b o e n hb hx=>?_,I.base.free,fun b o e hx=>?_,I.base.tups,I.base.frzs,I.base.tbls⟩,⟨_,hn',fun j y v' e1 e2 e3=>?_⟩,fun y c e=>?_,I.free,I.freeC,fun p hp=>?_,tracked ⟨oL,hoL,I.free⟩ hs,by simpa using I.len⟩ ⟨_,hs,.inl rfl⟩
  ·exact (hs.2 b (a7 (bz (Heap.lt_size e) I.ok.above))).trans (I.base.keep b o e n hb hx)
  ·obtain⟨sl,e1⟩:=I.base.slot b o e n hb hx
   exact⟨sl,(hs.2 b (a7 (bz (Heap.lt_size e) I.ok.above))).trans e1⟩
  ·obtain⟨o',e1⟩:=I.base.there b o e hx
   exact⟨o',(hs.2 b (a7 (bz (Heap.lt_size e) I.ok.above))).trans e1⟩
  ·by_cases hj:j=i
   ·subst hj
    rw[hi] at e1;cases e1;rw[nh hiσ] at e2;cases e2;exact⟨u,r,.inl ⟨hk,by simp⟩⟩
   ·rw[oy (Ne.symm hj)] at e2
    obtain⟨u',r',q⟩:=hl j y v' e1 e2 e3;refine⟨u',r',?_⟩;rcases q with ⟨k,e⟩ | ⟨k,c,e,z⟩
    ·refine .inl ⟨k,?_⟩
     have:y≠x:=fun e=>hj (An hN e1 (e▸hi))
     simp[this,e]
    ·exact .inr ⟨k,c,e,z.sameBut hs (cne y c e)⟩
  ·obtain⟨w',z⟩:=I.cell y c e
   exact⟨w',z.sameBut hs (cne y c e)⟩
  ·obtain⟨e,n,ne,nf,d⟩:=I.pin p hp
   exact⟨(hs.2 p.1 ne).trans e,n,ne,nf,d⟩
 ·have hfn:X.fn x=true:=by
   rcases hf with z | z
   ·exact z
   ·rw[z] at hk;cases hk
  obtain⟨c,hc⟩:=I.ok.has x (.inl hk);obtain⟨w',z⟩:=I.cell x c hc;refine wpAny_storeName_cell I.ok.kind hk hc z (fun h' hc' hs=>?_);obtain⟨oc,hoc,hocd⟩:=id z;refine h { s with heap:=h' } ⟨I.ok,I.os,I.bare,⟨fun b o e n hb hx=>?_,fun b o e n hb hx=>?_,I.base.free,fun b o e hx=>?_,I.base.tups,I.base.frzs,I.base.tbls⟩,⟨m,hn.sameBut hs (Ne.symm (cne x c hc)),fun j y v' e1 e2 e3=>?_⟩,fun y c' e=>?_,I.free,I.freeC,fun p hp=>?_,tracked ⟨oc,hoc,I.freeC x c hc⟩ hs,by simpa using I.len⟩ ⟨c,hs,.inr hc⟩
  ·exact (hs.2 b (a7 (bz (Heap.lt_size e) (I.ok.cab x c hfn hc)))).trans (I.base.keep b o e n hb hx)
  ·obtain⟨sl,e1⟩:=I.base.slot b o e n hb hx
   exact⟨sl,(hs.2 b (a7 (bz (Heap.lt_size e) (I.ok.cab x c hfn hc)))).trans e1⟩
  ·obtain⟨o',e1⟩:=I.base.there b o e hx
   exact⟨o',(hs.2 b (a7 (bz (Heap.lt_size e) (I.ok.cab x c hfn hc)))).trans e1⟩
  ·by_cases hj:j=i
   ·subst hj
    rw[hi] at e1;cases e1;rw[nh hiσ] at e2;cases e2;exact⟨u,r,.inr ⟨.inl hk,c,hc,hc'⟩⟩
   ·rw[oy (Ne.symm hj)] at e2
    obtain⟨u',r',q⟩:=hl j y v' e1 e2 e3;refine⟨u',r',?_⟩;rcases q with q | ⟨k,c',e,z'⟩
    ·exact .inl q
    ·refine .inr ⟨k,c',e,z'.sameBut hs ?_⟩
     rintro rfl;exact hj (An hN e1 (I.ok.inj _ _ _ e hc▸hi))
  ·by_cases hcc:c'=c
   ·subst hcc;exact⟨_,hc'⟩
   ·obtain⟨w2,z2⟩:=I.cell y c' e
    exact⟨w2,z2.sameBut hs hcc⟩
  ·obtain⟨e,n,ne,nf,d⟩:=I.pin p hp
   refine⟨(hs.2 p.1 ?_).trans e,n,ne,nf,d⟩;intro q;rw[q,hoc] at e;have q':oc=p.2:=ba e;exact d w' (by rw[<- q'];exact hocd)
theorem rP {M:Model}{A:Around}{E:Value->Shared->Prop}{i:Nat}{x:Str}{v:V}{u:Value}{Q:Unit->Shared->Prop}(I:Inv X pins σ H s)(hN:X.N.Nodup)(hi:X.N[i]?=some x)(hx:Loc X.env.scope x)(r:bE v u)
  (h:∀ s',Inv X pins (σ.set i (some v)) H s'->Q () s') (hf:X.fn x=true∨X.env.scope.names.lookup x=some .local:=by first | exact .inl rfl | exact .inr rfl | assumption):wpAny M A (storeName X.env x u) Q E s :=
 wG I hN hi hx r (fun s' I' _=>h s' I') hf
theorem Inv.call' {s':Shared}{ch:List Addr}(I:Inv X pins σ H s)(ho:s'.os=s.os)(u:Un (frs X.stack) ch H H' s.heap s'.heap)(hok:HOk X.prog X.w H' s'.heap)(hg:AllBare s'.gens)
  (hch:∀ b∈ch,(b∈X.ex∨X.s₀.heap.objs.size<=b)∧b≠X.env.locals∧(∀ x c,X.env.cells.lookup x=some c->c≠b)∧∀ p∈X.pn++pins,p.1≠b):Inv X pins σ H' s':=by
 obtain⟨h',g',d',t',o'⟩:=s';have e:o'=s.os:=ho;subst e;exact I.call (g':=g') (t':=t') (d':=d') u hok hg hch
end
abbrev XK:=Value->Option Addr->Hp->Prop
abbrev St:=List (Option V)
abbrev VK:=V->Hp->Prop
abbrev TE:=St->Hp->VK->Prop
abbrev TT:=St->Hp->(Bool->Hp->Prop)->Prop
abbrev TA:=St->Hp->(List V->Hp->Prop)->Prop
structure kK where
 nx:St->Hp->Prop
 rt:VK
 bk:St->Hp->Prop:=fun _ _=>False
 ct:St->Hp->Prop:=fun _ _=>False
abbrev TS:=kK->St->Hp->Prop
def EP (X:Cx)(pins:List (Addr×Obj))(σ:St)(Q:VK)(u:Value)(s':Shared):Prop:=∃ v H',Inv X pins σ H' s'∧bE v u∧Q v H'
def TP (X:Cx)(pins:List (Addr×Obj))(σ:St)(Q:Bool->Hp->Prop)(b:Bool)(s':Shared):Prop:=∃ H',Inv X pins σ H' s'∧Q b H'
def AP (X:Cx)(pins:List (Addr×Obj))(σ:St)(Q:List V->Hp->Prop)(us:List Value)(s':Shared):Prop:=∃ vs H',Inv X pins σ H' s'∧bR vs us∧Q vs H'
def SP (X:Cx)(pins:List (Addr×Obj))(D:kK)(f:Flow)(s':Shared):Prop :=
 match f with
 | .next=>∃ σ' H',Inv X pins σ' H' s'∧D.nx σ' H'
 | .brk=>∃ σ' H',Inv X pins σ' H' s'∧D.bk σ' H'
 | .cont=>∃ σ' H',Inv X pins σ' H' s'∧D.ct σ' H'
 | .ret u=>∃ v σ' H',Inv X pins σ' H' s'∧bE v u∧D.rt v H'
def PE (X:Cx)(e:Expr)(t:TE):Prop :=
 ∀ (pins:List (Addr×Obj)) (s:Shared) (σ:St) (H:Hp) (Q:VK),Inv X pins σ H s->t σ H Q->wpAny (model X.prog X.w) X.A (eval e X.env) (EP X pins σ Q) X.xe s
def PT (X:Cx)(e:Expr)(t:TT):Prop :=
 ∀ (pins:List (Addr×Obj)) (s:Shared) (σ:St) (H:Hp) (Q:Bool->Hp->Prop),Inv X pins σ H s->t σ H Q->wpAny (model X.prog X.w) X.A (isTrue e X.env (eval e X.env)) (TP X pins σ Q) X.xe s
def PW (X:Cx)(e:Expr)(t:TT):Prop :=
 ∀ (whole:Sem Value) (pins:List (Addr×Obj)) (s:Shared) (σ:St) (H:Hp) (Q:Bool->Hp->Prop),Inv X pins σ H s->t σ H Q->wpAny (model X.prog X.w) X.A (isTrue e X.env whole) (TP X pins σ Q) X.xe s
theorem PW.pt {X:Cx}{e:Expr}{t:TT}(h:PW X e t):PT X e t:=h _
def PA (X:Cx)(es:List Expr)(t:TA):Prop :=
 ∀ (pos:Pos) (pins:List (Addr×Obj)) (s:Shared) (σ:St) (H:Hp) (Q:List V->Hp->Prop),Inv X pins σ H s->t σ H Q->wpAny (model X.prog X.w) X.A (spliced (backTo pos (starEach es X.env))) (AP X pins σ Q) X.xe s
def PS (X:Cx)(st:Stmt)(t:TS):Prop :=
 ∀ (pins:List (Addr×Obj)) (s:Shared) (σ:St) (H:Hp) (D:kK),Inv X pins σ H s->t D σ H->wpAny (model X.prog X.w) X.A (exec st X.env) (SP X pins D) X.xe s
def PSs (X:Cx)(st:List Stmt)(t:TS):Prop :=
 ∀ (pins:List (Addr×Obj)) (s:Shared) (σ:St) (H:Hp) (D:kK),Inv X pins σ H s->t D σ H->wpAny (model X.prog X.w) X.A (execs st X.env) (SP X pins D) X.xe s
theorem thn {α:Type}{t:Sem α}{Q Q':α->Shared->Prop}{M:Model}{A:Around}{E:Value->Shared->Prop}{s:Shared}(h:wpAny M A t Q E s)(hQ:∀ a s,Q a s->Q' a s):wpAny M A t Q' E s:=wpAny_mono h hQ fun _ _ x=>x
section
variable {X:Cx}
def Uj (i:Nat):TE:=fun σ H Q=>∃ v,σ[i]?=some (some v)∧Q v H
def tC (v:V):TE:=fun _ H Q=>Q v H
theorem Sg {i:Nat}{x:Str}{pos:Pos}(hN:X.N[i]?=some x)(hv:Vis X.env.scope x)(hd:(x==("__debug__" : Str))=false:=by decide)(hcd:(x==("__classdict__" : Str))=false:=by decide):PE X (.Name x pos) (Uj i):=by
 intro pins s σ H Q I h;obtain⟨v,e,h⟩:=h;obtain⟨m,hn,hl⟩:=I.loc;obtain⟨u,r,l⟩:=hl i x v hN e hv;have fin:EP X pins σ Q u s:=⟨v,H,I,r,h⟩;rcases l with ⟨hk,hm⟩ | ⟨hk,c,hc,hcell⟩
 ·exact wpAny_Name (wpAny_loadName_local I.ok.kind hk hn hm fin) hd
 ·rcases hk with hk | hk
  ·exact wpAny_Name (wpAny_loadName_cell I.ok.kind hk hc hcell fin) hd
  ·exact wpAny_Name (wpAny_loadName_free I.ok.kind hk hc hcell fin hcd) hd
theorem aG {i j pos}:PE X (.Constant (.int i) j pos) (tC (.int i)):=fun _ _ _ H _ I h=>wpAny_Constant_int ⟨.int i,H,I.tok _,⟨_,rfl⟩,h⟩
theorem qH {b j pos}:PE X (.Constant (.bool b) j pos) (tC (.bl b)):=fun _ _ _ H _ I h=>Constant_bool ⟨.bl b,H,I,rfl,h⟩
theorem Ff {j pos}:PE X (.Constant .none j pos) (tC .non):=fun _ _ _ H _ I h=>Constant_none ⟨.non,H,I,rfl,h⟩
theorem Uc {x j pos}:PE X (.Constant (.str x) j pos) (tC (.str x)):=fun _ _ _ H _ I h=>Calls.Constant_str ⟨.str x,H,I.tok _,⟨_,rfl⟩,h⟩
def Gl (X:Cx)(x:Str):Prop:=X.env.kindOf x=some .globalImplicit
theorem rE {E:Value->Shared->Prop}{pins:List (Addr×Obj)}{s:Shared}{σ:St}{H:Hp}{x:Str}{u:Value}{pos:Pos}{Q:Value->Shared->Prop}(I:Inv X pins σ H s)(hg:Gl X x)(hm:X.mg x=some u)(h:Q u s)
  (hd:(x==("__debug__" : Str))=false:=by decide):wpAny (model X.prog X.w) X.A (eval (.Name x pos) X.env) Q E s :=
 Calls.Name_function_global I.ok.kind hg (Calls.loadGlobal_global (by rw[I.ok.glob];exact I.mod.glob.keeps I.bk) hm h) hd
theorem mF {E:Value->Shared->Prop}{pins:List (Addr×Obj)}{s:Shared}{σ:St}{H:Hp}{x:Str}{u:Value}{pos:Pos}{Q:Value->Shared->Prop}(I:Inv X pins σ H s)(hg:Gl X x)(hm:X.mg x=none)(hv:bootBuiltins x=some u)(h:Q u s)
  (hn:x ≠ "__name__" := by decide) (hd:(x==("__debug__" : Str))=false:=by decide):wpAny (model X.prog X.w) X.A (eval (.Name x pos) X.env) Q E s:=by
 obtain⟨mb,h1,h2⟩:=I.mod.blt;exact Calls.Name_function_global I.ok.kind hg (Calls.loadGlobal_builtin (by rw[I.ok.glob];exact I.mod.glob.keeps I.bk) hm (by rw[I.ok.blt];exact h1.keeps I.bk) ((h2 x hn).trans hv) h) hd
theorem fU {x:Str}{v:V}{u:Value}{pos:Pos}(hg:Gl X x)(hm:X.mg x=some u)(r:bE v u)(hd:(x==("__debug__" : Str))=false:=by decide):PE X (.Name x pos) (tC v) :=
 fun _ _ _ H _ I h=>rE I hg hm ⟨v,H,I,r,h⟩ hd
theorem yQ {x:Str}{v:V}{u:Value}{pos:Pos}(hg:Gl X x)(hm:X.mg x=none)(hv:bootBuiltins x=some u)(r:bE v u)(hn:x ≠ "__name__" := by decide)(hd:(x==("__debug__" : Str))=false:=by decide):PE X (.Name x pos) (tC v) :=
 fun _ _ _ H _ I h=>mF I hg hm hv ⟨v,H,I,r,h⟩ hn hd
variable {a b:Expr}{ta tb:TE}{pos:Pos}
def PC (X:Cx)(op:CmpOp)(a b:Expr)(t:TE):Prop :=
 ∀ (pins:List (Addr×Obj)) (s:Shared) (σ:St) (H:Hp) (Q:VK),Inv X pins σ H s->t σ H Q ->
  wpAny (model X.prog X.w) X.A (eval a X.env) (fun v s₁=>wpAny (model X.prog X.w) X.A (eval b X.env) (fun u s₂=>wpAny (model X.prog X.w) X.A (compareOp op v u) (EP X pins σ Q) X.xe s₂) X.xe s₁) X.xe s
theorem Og (b:Expr){op:CmpOp}(h:op≠.In)(h2:op≠.NotIn):behindInMarks op b=false:=by
 have e1:(op==CmpOp.In)=false:=by cases op <;> first | rfl | exact absurd rfl h
 have e2:(op==CmpOp.NotIn)=false:=by cases op <;> first | rfl | exact absurd rfl h2
 cases b <;> simp[behindInMarks,e1,e2]
def Xj (ta:TE):TE:=fun σ H Q=>ta σ H fun x H1=>Q (.bl (decide (x = .non))) H1
def Vy (ta:TE):TE:=fun σ H Q=>ta σ H fun x H1=>Q (.bl (!decide (x = .non))) H1
theorem bE.none_iff {x:V}{v:Value}(r:bE x v):(v==Value.none)=decide (x = .non):=by
 cases x with
 | non=>cases r;rfl
 | bl _=>cases r;rfl
 | int _=>obtain⟨t,rfl⟩:=r;rfl
 | str _=>obtain⟨t,rfl⟩:=r;rfl
 | byt _=>obtain⟨t,rfl⟩:=r;rfl
 | flt _=>obtain⟨t,rfl⟩:=r;rfl
 | ref _=>cases r;rfl
 | ty _=>cases r;rfl
theorem yP {j pos'}(ha:PE X a ta):PC X .Is a (.Constant .none j pos') (Xj ta):=by
 intro pins s σ H Q I h;refine thn (ha pins s σ H _ I h) fun v s1 ⟨x,H1,I1,r1,q1⟩=>?_
 exact Constant_none (is_none_gen ⟨.bl _,H1,I1,by rw[r1.none_iff];rfl,q1⟩)
theorem Pf {j pos'}(ha:PE X a ta):PC X .IsNot a (.Constant .none j pos') (Vy ta):=by
 intro pins s σ H Q I h;refine thn (ha pins s σ H _ I h) fun v s1 ⟨x,H1,I1,r1,q1⟩=>?_
 exact Constant_none (isnot_none_gen ⟨.bl _,H1,I1,by rw[r1.none_iff];rfl,q1⟩)
def tB (t:TE):TT:=fun σ H Q=>t σ H fun x H1=>∃ c,x = .bl c∧Q c H1
theorem mE {op:CmpOp}{t:TE}(h:PC X op a b t)(h1:behindInMarks op b=false:=by first | exact Og _ (by decide) (by decide) | rfl):PT X (.Compare a [op] [b] pos) (tB t):=by
 intro pins s σ H Q I hw;refine wpAny_isTrue_Compare1 (thn (h pins s σ H _ I hw) fun v s1 h1=>thn h1 fun u s2 h2=>thn h2 fun c s3 ⟨x,H1,I1,r1,q1⟩=>?_) h1;obtain⟨d,rfl,q⟩:=q1;cases r1;exact wpAny_truthy_bool ⟨H1,I1,q⟩
theorem kW {e:Expr}{t:TE}(h:PE X e t)(he:∀ whole,isTrue e X.env whole=(do let v <- whole;standAt e.pos;holding [v] (truthy v)):=by intro _;rfl):PT X e (tB t):=by
 intro pins s σ H Q I hw;refine isTrue_plain (thn (h pins s σ H _ I hw) fun v s1 ⟨x,H1,I1,r1,q1⟩=>?_) (he _);obtain⟨d,rfl,q⟩:=q1;cases r1;exact wpAny_truthy_bool ⟨H1,I1,q⟩
variable {tA tB':TT}{rest:List Expr}
def Wt (t u:TT):TT:=fun σ H Q=>t σ H fun c H1=>if c=true then u σ H1 Q else Q false H1
def tOr (t u:TT):TT:=fun σ H Q=>t σ H fun c H1=>if c=true then Q true H1 else u σ H1 Q
def Xg (t:TT):TT:=fun σ H Q=>t σ H fun c H1=>Q (!c) H1
theorem Gs (ha:PT X a tA):PW X (.BoolOp .And [a] pos) tA:=by
 intro wh pins s σ H Q I h;refine isTrue_and (thn (ha pins s σ H Q I h) fun c s1 e=>?_)
 cases c with
 | true=>exact isTrue_and_nil e
 | false=>exact e
theorem mO (ha:PT X a tA):PW X (.BoolOp .Or [a] pos) tA:=by
 intro wh pins s σ H Q I h;refine isTrue_or (thn (ha pins s σ H Q I h) fun c s1 e=>?_)
 cases c with
 | false=>exact isTrue_or_nil e
 | true=>exact e
theorem Mi (ha:PT X a tA)(hb:PW X (.BoolOp .And (b::rest) pos) tB'):PW X (.BoolOp .And (a::b::rest) pos) (Wt tA tB'):=by
 intro wh pins s σ H Q I h;refine isTrue_and (thn (ha pins s σ H _ I h) fun c s1 ⟨H1,I1,q1⟩=>?_)
 cases c with
 | true=>exact hb wh pins s1 σ H1 Q I1 q1
 | false=>exact⟨H1,I1,q1⟩
theorem pZ (ha:PT X a tA)(hb:PW X (.BoolOp .Or (b::rest) pos) tB'):PW X (.BoolOp .Or (a::b::rest) pos) (tOr tA tB'):=by
 intro wh pins s σ H Q I h;refine isTrue_or (thn (ha pins s σ H _ I h) fun c s1 ⟨H1,I1,q1⟩=>?_)
 cases c with
 | true=>exact⟨H1,I1,q1⟩
 | false=>exact hb wh pins s1 σ H1 Q I1 q1
theorem mH (ha:PT X a tA):PT X (.UnaryOp .Not a pos) (Xg tA):=by
 intro pins s σ H Q I h;exact isTrue_not (ha pins s σ H (fun c H1=>Q (!c) H1) I h)
def Vv (ta tb:TE):TE:=fun σ H Q=>ta σ H fun x H1=>∃ c,x = .bl c∧if c=true then tb σ H1 Q else Q (.bl false) H1
def Vd (ta:TE):TE:=fun σ H Q=>ta σ H fun x H1=>∃ c,x = .bl c∧Q (.bl (!c)) H1
theorem Eo {op}{t:TE}(h:PE X a t):PE X (.BoolOp op [a] pos) t:=fun pins s σ H Q I hw=>BoolOp_one (h pins s σ H Q I hw)
theorem uI (ha:PE X a ta)(hb:PE X (.BoolOp .And (b::rest) pos) tb):PE X (.BoolOp .And (a::b::rest) pos) (Vv ta tb):=by
 intro pins s σ H Q I h;refine BoolOp_and (thn (ha pins s σ H _ I h) fun v s1 ⟨x,H1,I1,r1,q1⟩=>?_);obtain⟨c,rfl,q1⟩:=q1;cases r1;refine wpAny_truthy_bool ?_
 cases c with
 | true=>exact hb pins s1 σ H1 Q I1 q1
 | false=>exact⟨.bl false,H1,I1,rfl,q1⟩
theorem Th (ha:PE X a ta):PE X (.UnaryOp .Not a pos) (Vd ta):=by
 intro pins s σ H Q I h;refine UnaryOp_ (thn (ha pins s σ H _ I h) fun v s1 ⟨x,H1,I1,r1,q1⟩=>?_);obtain⟨c,rfl,q1⟩:=q1;cases r1;exact not_of (wpAny_truthy_bool ⟨.bl (!c),H1,I1,rfl,q1⟩)
def tIf (t:TT)(ta tb:TE):TE:=fun σ H Q=>t σ H fun c H1=>if c=true then ta σ H1 Q else tb σ H1 Q
theorem Nr {c:Expr}(hc:PT X c tA)(ha:PE X a ta)(hb:PE X b tb):PE X (.IfExp c a b pos) (tIf tA ta tb):=by
 intro pins s σ H Q I h;refine wpAny_IfExp (thn (hc pins s σ H _ I h) fun d s1 ⟨H1,I1,q1⟩=>?_)
 cases d with
 | true=>exact ha pins s1 σ H1 Q I1 q1
 | false=>exact hb pins s1 σ H1 Q I1 q1
end
def SqL (K:ae)(H:Hp)(a:Addr)(xs:List V):Prop :=
 Rd H a (.lst xs) ∨
  ∃ (o:Obj) (its:Array Value) (n:Nat),K.lookup a=some o∧o.cls = .type "list" ∧ o.dict=none∧o.data = .seq its n∧its.size<=sizeLine∧bR xs its.toList
def SqT (K:ae)(H:Hp)(a:Addr)(xs:List V):Prop :=
 Rd H a (.tup xs) ∨
  ∃ (o:Obj) (its:Array Value) (n:Nat),K.lookup a=some o∧o.cls = .type "tuple" ∧ o.data = .seq its n∧its.size<=sizeLine∧bR xs its.toList
def Xy:Value->Option V
 | .none=>some .non
 | .bool b=>some (.bl b)
 | .int i _=>some (.int i)
 | .str x _=>some (.str x)
 | .bytes b _=>some (.byt b)
 | .float b _=>some (.flt b)
 | .ref a=>some (.ref a)
 | .type n=>some (.ty n)
 | _=>none
theorem bE.abs {x:V}{u:Value}(r:bE x u):Xy u=some x:=by
 cases x with
 | non=>cases r;rfl
 | bl _=>cases r;rfl
 | int _=>obtain⟨t,rfl⟩:=r;rfl
 | str _=>obtain⟨t,rfl⟩:=r;rfl
 | byt _=>obtain⟨t,rfl⟩:=r;rfl
 | flt _=>obtain⟨t,rfl⟩:=r;rfl
 | ref _=>cases r;rfl
 | ty _=>cases r;rfl
theorem bE.inj {x y:V}{u:Value}(r:bE x u)(q:bE y u):x=y:=ba (r.abs.symm.trans q.abs)
theorem bR.inj:∀ {xs ys:List V} {us:List Value},bR xs us->bR ys us->xs=ys
 | _,_,_,.nil,.nil=>rfl
 | _,_,_,.cons r t,.cons r' t'=>by rw[r.inj r',bR.inj t t']
section
variable {X:Cx}{pins:List (Addr×Obj)}{σ:St}{H:Hp}{s:Shared}{a:Addr}{xs ys:List V}
theorem SqL.of {K:ae}(h:H a=some (.lst xs)):SqL K H a xs:=.inl (.inl h)
theorem SqT.of {K:ae}(h:H a=some (.tup xs)):SqT K H a xs:=.inl (.inl h)
theorem Inv.list (I:Inv X pins σ H s)(h:SqL X.K H a xs):∃ its:List Value,bR xs its∧PlainL s.heap a its.toArray∧xs.length<=sizeLine:=by
 rcases h with h | ⟨o,its,n,hk,hc,hd,hs,hz,r⟩
 ·obtain⟨z,its,n,r,e⟩:=h.ok I.hok
  exact⟨its,r,⟨_,n,e,rfl,rfl,rfl⟩,z⟩
 ·refine⟨its.toList,r,⟨o,n,I.kIn a o hk,hc,hd,by simpa using hs⟩,?_⟩
  have e:=r.length;simp only [bb] at e;omega
theorem Inv.tuple (I:Inv X pins σ H s)(h:SqT X.K H a xs):∃ its:List Value,bR xs its∧IsTup s.heap a its.toArray∧xs.length<=sizeLine:=by
 rcases h with h | ⟨o,its,n,hk,hc,hs,hz,r⟩
 ·obtain⟨z,its,r,p⟩:=h.ok I.hok
  exact⟨its,r,p,z⟩
 ·refine⟨its.toList,r,⟨o,I.kIn a o hk,hc,n,by simpa using hs⟩,?_⟩
  have e:=r.length;simp only [bb] at e;omega
theorem Inv.list_inj (I:Inv X pins σ H s)(h:SqL X.K H a xs)(h':SqL X.K H a ys):xs=ys:=by
 obtain⟨its,r,⟨o,n,e,_,_,d⟩,_⟩:=I.list h;obtain⟨its',r',⟨o',n',e',_,_,d'⟩,_⟩:=I.list h';rw[e] at e';cases e';rw[d] at d'
 injection d' with d1 _
 have:its=its':=by simpa using congrArg tw d1
 subst this;exact r.inj r'
theorem Inv.tuple_inj (I:Inv X pins σ H s)(h:SqT X.K H a xs)(h':SqT X.K H a ys):xs=ys:=by
 obtain⟨its,r,⟨o,e,_,n,d⟩,_⟩:=I.tuple h;obtain⟨its',r',⟨o',e',_,n',d'⟩,_⟩:=I.tuple h';rw[e] at e';cases e';rw[d] at d'
 injection d' with d1 _
 have:its=its':=by simpa using congrArg tw d1
 subst this;exact r.inj r'
end
abbrev Cx.wish (X:Cx)(E:Value->Shared->Prop):Cx:={ X with xe:=E }
abbrev Cx.nox (X:Cx):Cx:=X.wish fun _ _=>False
theorem Cx.Ok.wish {X:Cx}(ok:X.Ok)(E:Value->Shared->Prop):(X.wish E).Ok :=
 ⟨ok.mod,ok.kind,ok.glob,ok.blt,ok.above,ok.inj,ok.has,ok.cab,ok.hd,ok.frames,ok.stk,ok.exf,ok.bs,ok.bsz,ok.noex,ok.exfs,ok.funs,ok.frf⟩
theorem Cx.Ok.unwish {X:Cx}{E:Value->Shared->Prop}(ok:(X.wish E).Ok):X.Ok :=
 ⟨ok.mod,ok.kind,ok.glob,ok.blt,ok.above,ok.inj,ok.has,ok.cab,ok.hd,ok.frames,ok.stk,ok.exf,ok.bs,ok.bsz,ok.noex,ok.exfs,ok.funs,ok.frf⟩
section
variable {X:Cx}{pins:List (Addr×Obj)}{σ:St}{H:Hp}{s:Shared}{E:Value->Shared->Prop}
theorem Inv.wish (I:Inv X pins σ H s)(E:Value->Shared->Prop):Inv (X.wish E) pins σ H s:=⟨I.ok.wish E,I.os,I.bare,I.base,I.loc,I.cell,I.free,I.freeC,I.pin,I.hok,I.len⟩
theorem Inv.unwish (I:Inv (X.wish E) pins σ H s):Inv X pins σ H s:=⟨I.ok.unwish,I.os,I.bare,I.base,I.loc,I.cell,I.free,I.freeC,I.pin,I.hok,I.len⟩
theorem SP.unwish {D:kK}{f:Flow}{s':Shared}(h:SP (X.wish E) pins D f s'):SP X pins D f s':=by
 cases f with
 | next=>obtain⟨σ',H',I,q⟩:=h;exact⟨σ',H',I.unwish,q⟩
 | brk=>obtain⟨σ',H',I,q⟩:=h;exact⟨σ',H',I.unwish,q⟩
 | cont=>obtain⟨σ',H',I,q⟩:=h;exact⟨σ',H',I.unwish,q⟩
 | ret u=>obtain⟨v,σ',H',I,r,q⟩:=h;exact⟨v,σ',H',I.unwish,r,q⟩
theorem PSs.nox {st:List Stmt}{t:TS}(h:PSs X.nox st t):PSs X st t:=fun pins s σ H D I hw =>
 wpAny_mono (h pins s σ H D (I.wish _) hw) (fun _ _ q=>q.unwish) fun _ _ z=>False.elim z
end
section
variable {X:Cx}{st:Stmt}{rest:List Stmt}{t u:TS}{e:Expr}{te:TE}{pos:Pos}
def We:TS:=fun D σ H=>D.nx σ H
def Xk (t u:TS):TS:=fun D σ H=>t { D with nx:=u D } σ H
theorem bA:PSs X [] We:=fun _ _ σ H _ I h=>wpAny_execs_nil ⟨σ,H,I,h⟩
theorem aB (h1:PS X st t)(h2:PSs X rest u):PSs X (st::rest) (Xk t u):=by
 intro pins s σ H D I h;refine wpAny_execs_cons (thn (h1 pins s σ H { D with nx:=u D } I h) fun f s1 q=>?_)
 cases f with
 | next =>
  obtain⟨σ',H',I',q⟩:=q;exact h2 pins s1 σ' H' D I' q
 | ret v=>exact q
 | brk=>exact q
 | cont=>exact q
theorem aF (h1:PS X st t):PSs X [st] t:=by
 intro pins s σ H D I h;refine wpAny_execs_cons (thn (h1 pins s σ H D I h) fun f s1 q=>?_)
 cases f with
 | next=>exact wpAny_execs_nil q
 | ret v=>exact q
 | brk=>exact q
 | cont=>exact q
def Sh:TS:=fun D σ H=>D.bk σ H
theorem uC:PS X (.Break pos) Sh:=fun _ _ σ H _ I h=>wpAny_Break ⟨σ,H,I,h⟩
theorem Inv.quiet {pins:List (Addr×Obj)}{σ:St}{H:Hp}{s:Shared}(I:Inv X pins σ H s):interactive X.env=false:=by simp[interactive,I.ok.kind]
def Vb (te:TE):TS:=fun D σ H=>te σ H fun _ H1=>D.nx σ H1
theorem iY (he:PE X e te)(hs:swapsWith e none pos.line X.env=pure false:=by rfl):PS X (.Expr e pos) (Vb te):=by
 intro pins s σ H D I h;exact wpAny_Expr_any (thn (he pins s σ H _ I h) fun v s1 ⟨x,H1,I1,r1,q1⟩=>⟨σ,H1,I1,q1⟩) I.quiet hs
def Xs (te:TE):TS:=fun D σ H=>te σ H D.rt
theorem aV (he:PE X e te):PS X (.Return (some e) pos) (Xs te):=by
 intro pins s σ H D I h;exact wpAny_Return_some (thn (he pins s σ H _ I h) fun v s1 ⟨x,H1,I1,r1,q1⟩=>⟨x,σ,H1,I1,r1,q1⟩)
def Xt (c:TT)(t u:TS):TS:=fun D σ H=>c σ H fun b H1=>if b=true then t D σ H1 else u D σ H1
theorem bW {c:Expr}{a b:List Stmt}{tc:TT}(hc:PT X c tc)(ha:PSs X a t)(hb:PSs X b u):PS X (.If c a b pos) (Xt tc t u):=by
 intro pins s σ H D I h;refine wpAny_If (thn (hc pins s σ H _ I h) fun d s1 ⟨H1,I1,q1⟩=>?_)
 cases d with
 | true=>exact ha pins s1 σ H1 D I1 q1
 | false=>exact hb pins s1 σ H1 D I1 q1
end
abbrev TG:=V->St->Hp->(St->Hp->Prop)->Prop
abbrev TGs:=List V->St->Hp->(St->Hp->Prop)->Prop
def PG (X:Cx)(target:Expr)(t:TG):Prop :=
 ∀ (pins:List (Addr×Obj)) (s:Shared) (σ:St) (H:Hp) (v:V) (u:Value) (Q:St->Hp->Prop),Inv X pins σ H s->bE v u->t v σ H Q ->
  wpAny (model X.prog X.w) X.A (assign target X.env u) (fun _ s'=>∃ σ' H',Inv X pins σ' H' s'∧Q σ' H') X.xe s
def PGs (X:Cx)(ts:List Expr)(t:TGs):Prop :=
 ∀ (pins:List (Addr×Obj)) (s:Shared) (σ:St) (H:Hp) (vs:List V) (us:List Value) (Q:St->Hp->Prop),Inv X pins σ H s->bR vs us->t vs σ H Q ->
  wpAny (model X.prog X.w) X.A (assignInOrder ((assignEach ts X.env).map (·.2)) us) (fun _ s'=>∃ σ' H',Inv X pins σ' H' s'∧Q σ' H') X.xe s
abbrev Wv:=V->V->V->Hp->(Hp->Prop)->Prop
def Xf (X:Cx)(t:Wv):Prop :=
 ∀ (pins:List (Addr×Obj)) (s:Shared) (σ:St) (H:Hp) (o i v:V) (ov iv u:Value) (Q:Hp->Prop),Inv X pins σ H s->bE o ov->bE i iv->bE v u->t o i v H Q ->
  wpAny (model X.prog X.w) X.A (setItem ov iv u) (fun _ s'=>∃ H',Inv X pins σ H' s'∧Q H') X.xe s
section
variable {X:Cx}{pos:Pos}
def vS (i:Nat):TG:=fun v σ H Q=>Q (σ.set i (some v)) H
theorem cG {i:Nat}{x:Str}(hN:X.N.Nodup)(hi:X.N[i]?=some x)(hx:Loc X.env.scope x)(hf:X.fn x=true∨X.env.scope.names.lookup x=some .local:=by first | exact .inl rfl | exact .inr rfl | assumption):PG X (.Name x pos) (vS i):=by
 intro pins s σ H v u Q I r h;exact wpAny_assign_Name (rP I hN hi hx r (fun s' I'=>⟨_,H,I',h⟩) hf)
def Xc:TGs:=fun vs σ H Q=>vs=[]∧Q σ H
def Wq (t:TG)(u:TGs):TGs:=fun vs σ H Q=>∃ v r,vs=v::r∧t v σ H fun σ' H'=>u r σ' H' Q
theorem Ga:PGs X [] Xc:=by
 intro pins s σ H vs us Q I r h;obtain⟨e,h⟩:=h;subst e;cases r;exact assignInOrder_nil ⟨σ,H,I,h⟩
theorem nJ {e:Expr}{es:List Expr}{t:TG}{u:TGs}(h1:PG X e t)(h2:PGs X es u)
  (hs:(assignEach (e::es) X.env).map (·.2)=assign e X.env::(assignEach es X.env).map (·.2):=by rfl):PGs X (e::es) (Wq t u):=by
 intro pins s σ H vs us Q I r h;obtain⟨v,vr,e1,h⟩:=h;subst e1
 cases r with
 | cons r rr =>
  rw[hs];refine assignInOrder_cons (thn (h1 pins s σ H _ _ _ I r h) fun _ s1 ⟨σ1,H1,I1,q1⟩=>?_);exact h2 pins s1 σ1 H1 _ _ Q I1 rr q1
def Xu (K:ae)(n:Nat)(t:TGs):TG:=fun v σ H Q=>∃ a xs,v = .ref a∧SqT K H a xs∧xs.length=n∧t xs σ H Q
theorem Oj {es:List Expr}{k:Nat}{t:TGs}{n:Nat}(hc:X.calm=true)(h:PGs X es t)
  (hn:(assignEach es X.env).length=n:=by rfl) (hst:(assignEach es X.env).findIdx? (·.1)=none:=by rfl):PG X (.Tuple es k pos) (Xu X.K n t):=by
 intro pins s σ H v u Q I r hw;obtain⟨a,xs,e1,hq,hl,hw⟩:=hw;subst e1;cases r;obtain⟨its,rv,ht,hz⟩:=I.tuple hq;refine assign_Tuple_tuple (I.ok.hd hc) ht (by simp[hn,<- hl,rv.length]) hst fun h' hx=>?_
 have I1:Inv X pins σ H { s with heap:=h' }:=I.kept (t':=s.toks) fun b o e=>hx b o (a7 (Heap.lt_size e)) e
 exact h pins _ σ H xs _ Q I1 (by simpa using rv) hw
def Qb (te:TE)(g:TG):TS:=fun D σ H=>te σ H fun x H1=>g x σ H1 D.nx
theorem aH {i:Nat}{x:Str}{e:Expr}{te:TE}{pos':Pos}(hN:X.N.Nodup)(hi:X.N[i]?=some x)(hx:Loc X.env.scope x)(he:PE X e te)(hs:swapsWith e (some (.Name x pos')) pos.line X.env=pure false:=by rfl)(hf:X.fn x=true∨X.env.scope.names.lookup x=some .local:=by first | exact .inl rfl | exact .inr rfl | assumption) :
  PS X (.Assign [.Name x pos'] e pos) (Qb te (vS i)):=by
 intro pins s σ H D I h;refine wpAny_Assign_Name (thn (he pins s σ H _ I h) fun v s1 ⟨y,H1,I1,r1,q1⟩=>?_) hs;exact rP I1 hN hi hx r1 (fun s2 I2=>⟨_,H1,I2,q1⟩) hf
def Sf (c:TT)(tb:TS):TS:=fun D σ H=>∃ W:Nat->St->Hp->Prop,(∃ m,W m σ H)∧∀ m σ H,W m σ H ->
 c σ H fun b H1=>if b=true then ∃ N:St->Hp->Prop,(∀ σ' H',N σ' H'->∃ m',m'<m∧W m' σ' H')∧tb { D with nx:=N,ct:=N,bk:=D.nx } σ H1 else D.nx σ H1
theorem jH {c:Expr}{body:List Stmt}{tc:TT}{tb:TS}(hp:PassesOwn (model X.prog X.w) X.A X.env X.xe)(hc:PT X c tc)(hb:PSs X body tb):PS X (.While c body [] pos) (Sf tc tb):=by
 intro pins s σ H D I h;obtain⟨W,⟨m0,w0⟩,turn⟩:=h;refine wpAny_While (codeAny_whileLoop (fun n s'=>∃ σ' H',Inv X pins σ' H' s'∧W n σ' H') ?_ m0 ⟨σ,H,I,w0⟩);rintro n s1 ⟨σ1,H1,I1,w1⟩;refine wpAny_passesOwn hp (thn (hc pins s1 σ1 H1 _ I1 (turn n σ1 H1 w1)) fun b s2 ⟨H2,I2,q2⟩=>?_)
 cases b with
 | true =>
  obtain⟨N,hN,q2⟩:=q2;rw[if_pos rfl];refine wpAny_passesOwn hp (thn (hb pins s2 σ1 H2 _ I2 q2) fun f s3 q3=>?_)
  cases f with
  | next =>
   obtain⟨σ3,H3,I3,n3⟩:=q3;obtain⟨m',hm,w3⟩:=hN σ3 H3 n3;exact⟨m',hm,σ3,H3,I3,w3⟩
  | cont =>
   obtain⟨σ3,H3,I3,n3⟩:=q3;obtain⟨m',hm,w3⟩:=hN σ3 H3 n3;exact⟨m',hm,σ3,H3,I3,w3⟩
  | brk=>exact q3
  | ret v=>exact q3
 | false =>
  rw[if_neg ak];exact wpAny_execs_nil ⟨σ1,H2,I2,q2⟩
end
structure It where
 go:Nat->Hp->Prop
 yld:Nat->Hp->V->Hp->Prop
 stop:Nat->Hp->Prop
def mT (X:Cx)(pins:List (Addr×Obj))(H:Hp)(b:Addr):Prop :=
 H b=none∧b≠X.env.locals∧b∉X.fs∧(b∈X.ex∨X.s₀.heap.objs.size<=b)∧(∀ x c,X.env.cells.lookup x=some c->c≠b)∧∀ p∈X.pn++pins,p.1≠b
theorem Inv.fpOk {X:Cx}{pins:List (Addr×Obj)}{σ:St}{H H':Hp}{s:Shared}{b:Addr}(I:Inv X pins σ H s)(hb:s.heap.objs.size<=b)(hn:H' b=none):mT X pins H' b:=by
 refine⟨hn,fh (bz I.lt hb),I.nofs hb,.inr (a5 I.sz hb),fun x c e z=>?_,fun p hp z=>?_⟩
 ·obtain⟨v,q⟩:=I.cell x c e
  exact absurd (bz q.lt (by rw[z];exact hb)) (d7 _)
 ·exact absurd (bz (Heap.lt_size (I.pin p hp).1) (by rw[z];exact hb)) (d7 _)
structure vE (P:Program)(w:World)(K:ae)(tg:Expr)(J:It)(fp:List Addr)(it:Addr)(tn:Nat->Heap->Prop):Prop where
 mem:it∈fp
 obj:∀ i h,tn i h->∀ b∈fp,∃ o,h.get? b=some o∧∀ v,o.data≠.cell v
 keep:∀ i h h',tn i h->(∀ b∈fp,∀ o,h.get? b=some o->h'.get? b=some o)->tn i h'
 item:∀ (X:Cx),X.prog=P->X.w=w->X.K=K->X.calm=true->∀ (i:Nat) (pins:List (Addr×Obj)) (s:Shared) (σ:St) (H:Hp) (E:Value->Shared->Prop),Inv X pins σ H s->(∀ b∈fp,mT X pins H b)->tn i s.heap->J.go i H ->
  wpAny (model P w) X.A (pyNext (.ref it)) (fun r s1=>∃ u,r=some u ∧
   wpAny (model P w) X.A (letOwnedTupleGo tg (.ref it) u) (fun _ s2=>∃ x H',Inv X pins σ H' s2∧bE x u∧J.yld i H x H'∧tn (i+1) s2.heap∧∀ b∈fp,H' b=none) E s1) E s
 done:∀ (X:Cx),X.prog=P->X.w=w->X.K=K->X.calm=true->∀ (i:Nat) (pins:List (Addr×Obj)) (s:Shared) (σ:St) (H:Hp) (E:Value->Shared->Prop),Inv X pins σ H s->(∀ b∈fp,mT X pins H b)->tn i s.heap->J.stop i H ->
  wpAny (model P w) X.A (pyNext (.ref it)) (fun r s1=>r=none∧Inv X pins σ H s1) E s
 self:∀ (A:Around) (i:Nat) (s:Shared) (Q:Value->Shared->Prop) (E:Value->Shared->Prop),tn i s.heap->Q (.ref it) s->wpAny (model P w) A (pyIter (.ref it)) Q E s
abbrev TI:=St->Hp->(It->Hp->Prop)->Prop
def PIE (X:Cx)(pins:List (Addr×Obj))(σ:St)(tg:Expr)(R:It->Hp->Prop)(itv:Value)(s2:Shared):Prop :=
 ∃ (it:Addr) (fp:List Addr) (tn:Nat->Heap->Prop) (J:It) (H':Hp),itv = .ref it∧Inv X pins σ H' s2∧vE X.prog X.w X.K tg J fp it tn∧tn 0 s2.heap∧(∀ b∈fp,mT X pins H' b)∧R J H'
def PI (X:Cx)(tg iter:Expr)(wi:TI):Prop :=
 ∀ (pins:List (Addr×Obj)) (s:Shared) (σ:St) (H:Hp) (R:It->Hp->Prop),Inv X pins σ H s->wi σ H R ->
  wpAny (model X.prog X.w) X.A (eval iter X.env) (fun v s1=>wpAny (model X.prog X.w) X.A (pyIter v) (PIE X pins σ tg R) X.xe s1) X.xe s
theorem Hh {M : Model} {A : Around} {E : Value → Shared → Prop} {s : Shared} {tg : Expr} {it : Addr} {u : Value} {o : Obj} {n : String} {vs : Array Value} {Q : Unit → Shared → Prop} (ho : s.heap.get? it = some o) (hc : o.cls = .type n) (hd : o.data = .fields vs)
    (hn : ["enumerate", "zip", "dict_itemiterator", "dict_reverseitemiterator", "odict_iterator", "itertools.zip_longest", "itertools.pairwise"].contains n = false) (hQ : Q () s) : wpAny M A (letOwnedTupleGo tg (.ref it) u) Q E s := by
  unfold letOwnedTupleGo;cases tg <;> first
    | exact wpAny_pure hQ
    | (cases u <;> first
        | exact wpAny_pure hQ
        | (refine wpAny_bind (wpAny_load ho ?_)
           rw[hc, hd];show wpAny M A (if (["enumerate", "zip", "dict_itemiterator", "dict_reverseitemiterator", "odict_iterator", "itertools.zip_longest", "itertools.pairwise"].contains n && vs[0]? == some (rawInt _)) = true then _ else _) Q E s
           rw[if_neg (by intro h; rw[hn, kc] at h; cases h)];exact wpAny_pure hQ))
def Itl (K:ae)(a:Addr):It :=
 ⟨fun i H=>∃ xs x,SqL K H a xs∧xs[i]?=some x,fun i H x H'=>H'=H∧∀ xs,SqL K H a xs->xs[i]?=some x,fun i H=>∃ xs,SqL K H a xs∧xs.length<=i⟩
def Itt (K:ae)(a:Addr):It :=
 ⟨fun i H=>∃ xs x,SqT K H a xs∧xs[i]?=some x,fun i H x H'=>H'=H∧∀ xs,SqT K H a xs->xs[i]?=some x,fun i H=>∃ xs,SqT K H a xs∧xs.length<=i⟩
def Itr (lo:Int)(n:Nat):It:=⟨fun i _=>i<n,fun i H x H'=>H'=H∧x = .int (lo+i),fun i _=>n<=i⟩
theorem wW {P:Program}{w:World}{K:ae}{tg:Expr}(a it:Addr):vE P w K tg (Itl K a) [it] it (fun i h=>h.IsListIter it a i) where
 mem:=by simp
 obj:=fun i h st b hb=>by
  have e:b=it:=by simpa using hb
  subst e;obtain⟨o,e,c,d⟩:=st;exact⟨o,e,fun v z=>by rw[d] at z;cases z⟩
 keep:=fun i h h' st k=>st.at fun o e=>k it (by simp) o e
 item:=by
  intro X hP hw hK hc i pins s σ H E I hf st hg;subst hP hw hK;obtain⟨xs,x,hq,hx⟩:=hg;obtain⟨its,rv,p,hz⟩:=I.list hq;obtain⟨u,hu,ru⟩:=rv.get hx;obtain⟨f0,f1,f2,f3,f4,f5⟩:=hf it (by simp);refine wpAny_pyNext_list_item st p.isList (x:=u) (by simpa using hu) fun h' st' sb=>?_
  have I1:Inv X pins σ H { s with heap:=h' }:=I.turned (t':=s.toks) (fun b o hb e=>(sb.2 b hb).trans e) f0 f1 f3 f4 f5;obtain⟨o,e,c,d⟩:=id st';exact⟨u,rfl,Hh (s:={ s with heap:=h' }) e c d (by decide) ⟨x,H,I1,ru,⟨rfl,fun ys hy=>by rw[I.list_inj hy hq];exact hx⟩,st',fun b hb=>(hf b hb).1⟩⟩
 done:=by
  intro X hP hw hK hc i pins s σ H E I hf st hg;subst hP hw hK;obtain⟨xs,hq,hx⟩:=hg;obtain⟨its,rv,p,hz⟩:=I.list hq;obtain⟨f0,f1,f2,f3,f4,f5⟩:=hf it (by simp);have hl:=rv.length;exact wpAny_pyNext_list_end (I.ok.hd hc) st p.isList (by simp;omega) fun h' eb=>⟨rfl,I.turned (t':=s.toks) (fun b o hb e=>eb b o hb e) f0 f1 f3 f4 f5⟩
 self:=fun _ _ _ _ _ st h=>wpAny_pyIter_listiter st h
theorem tI {P:Program}{w:World}{K:ae}{tg:Expr}(a it:Addr):vE P w K tg (Itt K a) [it] it (fun i h=>h.IsTupleIter it a i) where
 mem:=by simp
 obj:=fun i h st b hb=>by
  have e:b=it:=by simpa using hb
  subst e;obtain⟨o,e,c,d⟩:=st;exact⟨o,e,fun v z=>by rw[d] at z;cases z⟩
 keep:=fun i h h' st k=>st.at fun o e=>k it (by simp) o e
 item:=by
  intro X hP hw hK hc i pins s σ H E I hf st hg;subst hP hw hK;obtain⟨xs,x,hq,hx⟩:=hg;obtain⟨its,rv,p,hz⟩:=I.tuple hq;obtain⟨u,hu,ru⟩:=rv.get hx;obtain⟨f0,f1,f2,f3,f4,f5⟩:=hf it (by simp);refine wpAny_pyNext_tuple_item st (show s.heap.IsTuple a its.toArray from p) (x:=u) (by simpa using hu) fun h' st' sb=>?_
  have I1:Inv X pins σ H { s with heap:=h' }:=I.turned (t':=s.toks) (fun b o hb e=>(sb.2 b hb).trans e) f0 f1 f3 f4 f5;obtain⟨o,e,c,d⟩:=id st';exact⟨u,rfl,Hh (s:={ s with heap:=h' }) e c d (by decide) ⟨x,H,I1,ru,⟨rfl,fun ys hy=>by rw[I.tuple_inj hy hq];exact hx⟩,st',fun b hb=>(hf b hb).1⟩⟩
 done:=by
  intro X hP hw hK hc i pins s σ H E I hf st hg;subst hP hw hK;obtain⟨xs,hq,hx⟩:=hg;obtain⟨its,rv,p,hz⟩:=I.tuple hq;obtain⟨f0,f1,f2,f3,f4,f5⟩:=hf it (by simp);have hl:=rv.length;exact wpAny_pyNext_tuple_end (I.ok.hd hc) st (show s.heap.IsTuple a its.toArray from p) (by simp;omega) fun h' eb=>⟨rfl,I.turned (t':=s.toks) (fun b o hb e=>eb b o hb e) f0 f1 f3 f4 f5⟩
 self:=fun _ _ _ _ _ st h=>wpAny_pyIter_tupleiter st h
theorem Ex {P:Program}{w:World}{K:ae}{tg:Expr}(it:Addr)(lo:Int)(n:Nat):vE P w K tg (Itr lo n) [it] it (fun i h=>IsRangeIter h it (lo+(i:Nat)*1) ((n:Int)-(i:Nat)) 1) where
 mem:=by simp
 obj:=fun i h st b hb=>by
  have e:b=it:=by simpa using hb
  subst e;exact⟨_,st,fun v z=>by
   have z':Data.fields _=Data.cell v:=z;cases z'⟩
 keep:=fun i h h' st k=>k it (by simp) _ st
 item:=by
  intro X hP hw hK hc i pins s σ H E I hf st hg;subst hP hw hK;obtain⟨f0,f1,f2,f3,f4,f5⟩:=hf it (by simp);have W:=Walks.range (prog:=X.prog) (w:=X.w) (I.ok.hd hc) it lo 1 n;refine W.item i s _ _ hg st fun v h' tk hv st' kk=>?_
  obtain⟨t,rfl⟩:=hv;have I1:Inv X pins σ H { s with heap:=h',toks:=tk }:=I.turned (fun b o hb e=>kk b o (by simpa using hb) e) f0 f1 f3 f4 f5;refine⟨_,rfl,Hh (s:={ s with heap:=h',toks:=tk }) (n := "range_iterator") st' rfl rfl (by decide) ⟨.int (lo+i),H,I1,⟨t,?_⟩,⟨rfl,rfl⟩,st',fun b hb=>(hf b hb).1⟩⟩
  rw[ld]
 done:=by
  intro X hP hw hK hc i pins s σ H E I hf st hg;subst hP hw hK;obtain⟨f0,f1,f2,f3,f4,f5⟩:=hf it (by simp);exact wpAny_pyNext_range_end (I.ok.hd hc) st (by have:n<=i:=hg;omega) fun h' eb=>⟨rfl,I.turned (t':=s.toks) (fun b o hb e=>eb b o hb e) f0 f1 f3 f4 f5⟩
 self:=fun _ _ _ _ _ st h=>wpAny_pyIter_rangeiter st h
section
variable {X:Cx}{tg:Expr}
def Vo (K:ae)(tl:TE):TI:=fun σ H R=>tl σ H fun x H1=>∃ a,x = .ref a∧(∃ xs,SqL K H1 a xs)∧R (Itl K a) H1
def Xw (K:ae)(tl:TE):TI:=fun σ H R=>tl σ H fun x H1=>∃ a,x = .ref a∧(∃ xs,SqT K H1 a xs)∧R (Itt K a) H1
theorem cF {l:Expr}{tl:TE}(hl:PE X l tl):PI X tg l (Vo X.K tl):=by
 intro pins s σ H R I h;refine thn (hl pins s σ H _ I h) fun v s1 ⟨x,H1,I1,r1,q1⟩=>?_
 obtain⟨a,e,⟨xs,hq⟩,q⟩:=q1;subst e;cases r1;obtain⟨its,rv,p,hz⟩:=I1.list hq;refine wpAny_pyIter_list p.isList ?_;refine⟨s1.heap.objs.size,[s1.heap.objs.size],_,_,H1,rfl,I1.kept (t':=s1.toks) fun b o e=>Heap.get?_push_of_some _ e,wW a _,⟨_,Heap.get?_push_size _ rfl,rfl,rfl⟩,fun b hb=>?_,q⟩;have e:b=s1.heap.objs.size:=by simpa using hb
 subst e;exact I1.fpOk (af _) (I1.hok.fresh (af _))
theorem oH {l:Expr}{tl:TE}(hl:PE X l tl):PI X tg l (Xw X.K tl):=by
 intro pins s σ H R I h;refine thn (hl pins s σ H _ I h) fun v s1 ⟨x,H1,I1,r1,q1⟩=>?_
 obtain⟨a,e,⟨xs,hq⟩,q⟩:=q1;subst e;cases r1;obtain⟨its,rv,p,hz⟩:=I1.tuple hq;refine wpAny_pyIter_tuple (show s1.heap.IsTuple a its.toArray from p) ?_;refine⟨s1.heap.objs.size,[s1.heap.objs.size],_,_,H1,rfl,I1.kept (t':=s1.toks) fun b o e=>Heap.get?_push_of_some _ e,tI a _,⟨_,Heap.get?_push_size _ rfl,rfl,rfl⟩,fun b hb=>?_,q⟩;have e:b=s1.heap.objs.size:=by simpa using hb
 subst e;exact I1.fpOk (af _) (I1.hok.fresh (af _))
theorem zX {pins:List (Addr×Obj)}{σ:St}{H:Hp}{s:Shared}{R:It->Hp->Prop}{E:Value->Shared->Prop}{lo hi:Int}{t u v:Tok}{tk:Nat}(I:Inv X pins σ H s)(h1 : -(2 ^ 62)<=lo)(h2:lo<2 ^ 62)(h3 : -(2 ^ 62)<=hi)(h4:hi<2 ^ 62)
  (q:R (Itr lo (hi-lo).toNat) H):wpAny (model X.prog X.w) X.A (pyIter (.ref s.heap.objs.size)) (PIE X pins σ tg R) E { s with heap:=s.heap.push { cls:=.type "range",data:=.fields #[.int lo t,.int hi u,.int 1 v] },toks:=tk }:=by
 refine wpAny_pyIter_range (IsRange.new ..) (small_one h1 h2 h3 h4) ?_;have I1:Inv X pins σ H { s with heap:=s.heap.push { cls:=.type "range",data:=.fields #[.int lo t,.int hi u,.int 1 v] },toks:=tk }:=I.kept fun b o e=>Heap.get?_push_of_some _ e
 refine⟨(s.heap.push { cls:=.type "range",data:=.fields #[.int lo t,.int hi u,.int 1 v] }).objs.size,[(s.heap.push { cls:=.type "range",data:=.fields #[.int lo t,.int hi u,.int 1 v] }).objs.size],_,_,H,rfl,
  I1.kept (t':=tk) fun b o e=>Heap.get?_push_of_some _ e,Ex _ lo (hi-lo).toNat,?_,fun b hb=>?_,q⟩
 ·have e1:lo+((0:Nat):Int)*1=lo:=by simp
  have e2:(((hi-lo).toNat:Nat):Int)-((0:Nat):Int)=Builtin.Range.rangeSize lo hi 1:=by rw[rangeSize_one];split <;> omega
  show IsRangeIter _ _ (lo+((0:Nat):Int)*1) ((((hi-lo).toNat:Nat):Int)-((0:Nat):Int)) 1;rw[e1,e2];exact Heap.get?_push_size _ rfl
 ·have e:b=(s.heap.push { cls:=.type "range",data:=.fields #[.int lo t,.int hi u,.int 1 v] }).objs.size:=by simpa using hb
  subst e;exact I1.fpOk (af _) (I1.hok.fresh (af _))
def Wh (ta:TA):TI:=fun σ H R=>ta σ H fun vs H1=>∃ j:Int,vs=[.int j]∧-(2 ^ 62)<=j∧j<2 ^ 62∧R (Itr 0 j.toNat) H1
def Ul (ta:TA):TI:=fun σ H R=>ta σ H fun vs H1=>∃ i j:Int,vs=[.int i,.int j]∧(-(2 ^ 62)<=i∧i<2 ^ 62∧-(2 ^ 62)<=j∧j<2 ^ 62)∧R (Itr i (j-i).toNat) H1
theorem jO {a:Expr}{ta:TA}{p pos:Pos}(hg:Gl X "range")(hm:X.mg "range" = none)(ha:PA X [a] ta)(hs:starEach [a] X.env=[(false,eval a X.env)]:=by rfl):PI X tg (.Call (.Name "range" p) [a] [] pos) (Wh ta):=by
 intro pins s σ H R I h;refine Call_ (mF I hg hm boot_range (fg (thn (ha pos pins s σ H _ I h) fun us s1 ⟨vs,H1,I1,r1,q1⟩=>?_) hs rfl));obtain⟨j,e,q1,q2,q⟩:=q1;subst e
 cases r1 with
 | cons r rr =>
  cases rr;obtain⟨t,rfl⟩:=r;exact call_range_1 (zX I1 (by omega) (by omega) q1 q2 (by simpa using q))
theorem Kj {a b:Expr}{ta:TA}{p pos:Pos}(hg:Gl X "range")(hm:X.mg "range" = none)(ha:PA X [a,b] ta)(hs:starEach [a,b] X.env=[(false,eval a X.env),(false,eval b X.env)]:=by rfl)(hs2:starEach [b] X.env=[(false,eval b X.env)]:=by rfl) :
  PI X tg (.Call (.Name "range" p) [a,b] [] pos) (Ul ta):=by
 intro pins s σ H R I h;refine Call_ (mF I hg hm boot_range (fg (thn (ha pos pins s σ H _ I h) fun us s1 ⟨vs,H1,I1,r1,q1⟩=>?_) (by rw[hs,hs2]) (by rw[hs2];rfl)));obtain⟨i,j,e,⟨q1,q2,q3,q4⟩,q⟩:=q1;subst e
 cases r1 with
 | cons r rr =>
  cases rr with
  | cons r' rr =>
   cases rr;obtain⟨t,rfl⟩:=r;obtain⟨t',rfl⟩:=r';exact call_range_2 (zX I1 q1 q2 q3 q4 q)
def Xo (wi:TI)(g:TG)(tb:TS):TS:=fun D σ H=>wi σ H fun J H1=>∃ W:Nat->Nat->St->Hp->Prop,(∃ m,W 0 m σ H1)∧∀ i m σ H,W i m σ H ->
 (J.stop i H∧D.nx σ H)∨(J.go i H∧∃ N:St->Hp->Prop,(∀ σ' H',N σ' H'->∃ m',m'<m∧W (i+1) m' σ' H')∧∀ x H',J.yld i H x H'->g x σ H' fun σ2 H2=>tb { D with nx:=N,ct:=N,bk:=D.nx } σ2 H2)
def mI (fp:List Addr)(h:Heap):List (Addr×Obj):=fp.filterMap fun b=>(h.get? b).map fun o=>(b,o)
theorem eS {fp:List Addr}{h:Heap}{b:Addr}{o:Obj}(hb:b∈fp)(e:h.get? b=some o):(b,o)∈mI fp h:=l5.mpr ⟨b,hb,by rw[e];rfl⟩
theorem Ir {fp:List Addr}{h:Heap}{p:Addr×Obj}(hp:p∈mI fp h):p.1∈fp∧h.get? p.1=some p.2:=by
 obtain⟨b,hb,e⟩:=l5.mp hp
 cases q:h.get? b with
 | none=>rw[q] at e;cases e
 | some o =>
  rw[q] at e;have e':(b,o)=p:=ba e;subst e';exact⟨hb,q⟩
theorem Inv.pinned {pins:List (Addr×Obj)}{σ:St}{H:Hp}{s:Shared}{fp:List Addr}(I:Inv X pins σ H s)(hf:∀ b∈fp,mT X pins H b)(ho:∀ b∈fp,∃ o,s.heap.get? b=some o∧∀ v,o.data≠.cell v):Inv X (pins++mI fp s.heap) σ H s :=
 I.pins_of fun p hp=>(bj.mp hp).elim (fun z=>I.pin p (bu _ z)) fun z=>by
  obtain⟨hb,e⟩:=Ir z;obtain⟨f0,f1,f2,_⟩:=hf p.1 hb;obtain⟨o,e',d⟩:=ho p.1 hb;rw[e] at e';cases e';exact⟨e,f0,f1,f2,d⟩
theorem Inv.unpinned {pins pl:List (Addr×Obj)}{σ:St}{H:Hp}{s:Shared}(I:Inv X (pins++pl) σ H s):Inv X pins σ H s:=I.pins_of fun p hp=>I.pin p (bu _ (gc _ hp))
theorem dW {iter:Expr}{body:List Stmt}{wi:TI}{g:TG}{tb:TS}{pos:Pos}(hp:PassesOwn (model X.prog X.w) X.A X.env X.xe)(hc:X.calm=true)(hi:PI X tg iter wi)(hg:PG X tg g)(hb:PSs X body tb)
  (hs:∀ x,foldedSetIterable iter X.env x=pure x:=by intro _;rfl):PS X (.For tg iter body [] pos) (Xo wi g tb):=by
 intro pins s σ H D I h;refine wpAny_For (thn (hi pins s σ H _ I h) fun v s1 h1=>thn h1 fun itv s2 h2=>?_) hs;obtain⟨it,fp,tn,J,H2,e,I2,T,st2,f2,W,⟨m0,w0⟩,turn⟩:=h2;subst e;have stat:∀ {H':Hp},(∀ b∈fp,H' b=none)->∀ b∈fp,mT X pins H' b:=fun hn b hb=>⟨hn b hb,(f2 b hb).2⟩
 refine codeAny_forLoop_any (fun n s'=>∃ i σ' H',Inv X pins σ' H' s'∧tn i s'.heap∧(∀ b∈fp,H' b=none)∧W i n σ' H') ?_ m0 ⟨0,σ,H2,I2,st2,fun b hb=>(f2 b hb).1,w0⟩;rintro n s3 ⟨i,σ3,H3,I3,st3,fr3,w3⟩;rcases turn i n σ3 H3 w3 with ⟨stop,qn⟩ | ⟨go,N,hN,step⟩
 ·refine wpAny_passesOwn hp (thn (T.done X rfl rfl rfl hc i pins s3 σ3 H3 X.xe I3 (stat fr3) st3 stop) fun r s4 ⟨hr,I4⟩=>?_)
  subst hr;exact wpAny_execs_nil ⟨σ3,H3,I4,qn⟩
 ·refine wpAny_passesOwn hp (thn (T.item X rfl rfl rfl hc i pins s3 σ3 H3 X.xe I3 (stat fr3) st3 go) fun r s4 ⟨u,hr,h4⟩=>?_)
  subst hr;refine wpAny_passesOwn hp (thn h4 fun _ s5 ⟨x,H5,I5,r5,y5,st5,fr5⟩=>?_);have I5':=I5.pinned (stat fr5) (T.obj _ _ st5);refine wpAny_passesOwn hp (thn (hg _ s5 σ3 H5 x u _ I5' r5 (step x H5 y5)) fun _ s6 ⟨σ6,H6,I6,q6⟩=>?_);refine wpAny_passesOwn hp (thn (hb _ s6 σ6 H6 _ I6 q6) fun f s7 q7=>?_);have again:∀ {σ7:St} {H7:Hp},Inv X (pins++mI fp s5.heap) σ7 H7 s7->N σ7 H7->∃ m,m<n∧∃ i σ' H',Inv X pins σ' H' s7∧tn i s7.heap∧(∀ b∈fp,H' b=none)∧W i m σ' H':=fun {σ7 H7} I7 n7=>by
   obtain⟨m',hm,w7⟩:=hN σ7 H7 n7;refine⟨m',hm,i+1,σ7,H7,I7.unpinned,T.keep _ _ _ st5 fun b hb o e=>(I7.pin (b,o) (bu _ (bu _ (eS hb e)))).1,fun b hb=>?_,w7⟩;obtain⟨o,e,d⟩:=T.obj _ _ st5 b hb;exact (I7.pin (b,o) (bu _ (bu _ (eS hb e)))).2.1
  cases f with
  | next=>obtain⟨σ7,H7,I7,n7⟩:=q7;exact again I7 n7
  | cont=>obtain⟨σ7,H7,I7,n7⟩:=q7;exact again I7 n7
  | brk=>obtain⟨σ7,H7,I7,q7⟩:=q7;exact⟨σ7,H7,I7.unpinned,q7⟩
  | ret v=>obtain⟨x7,σ7,H7,I7,r7,q7⟩:=q7;exact⟨x7,σ7,H7,I7.unpinned,r7,q7⟩
end
theorem fH {K:ae}{a:Addr}{xs:List V}{g:TG}{tb:TS}{D:kK}{σ:St}{H:Hp}(Pv:Nat->St->Hp->Prop)(h0:Pv 0 σ H)(hl:∀ i σ H,i<=xs.length->Pv i σ H->SqL K H a xs)
  (hs:∀ i x σ H,xs[i]?=some x->Pv i σ H->g x σ H fun σ2 H2=>tb { D with nx:=Pv (i+1),ct:=Pv (i+1),bk:=D.nx } σ2 H2) (hd:∀ σ H,Pv xs.length σ H->D.nx σ H) :
  ∃ W:Nat->Nat->St->Hp->Prop,(∃ m,W 0 m σ H)∧∀ i m σ H,W i m σ H ->
   ((Itl K a).stop i H∧D.nx σ H)∨((Itl K a).go i H∧∃ N:St->Hp->Prop,(∀ σ' H',N σ' H'->∃ m',m'<m∧W (i+1) m' σ' H')∧∀ x H',(Itl K a).yld i H x H'->g x σ H' fun σ2 H2=>tb { D with nx:=N,ct:=N,bk:=D.nx } σ2 H2):=by
 refine⟨fun i m σ H=>m=xs.length-i∧i<=xs.length∧Pv i σ H,⟨xs.length,by simp,b8 _,h0⟩,?_⟩;rintro i m σ H ⟨rfl,hi,p⟩;have q:=hl i σ H hi p;by_cases hlt:i<xs.length
 ·refine .inr ⟨⟨xs,xs[i],q,by simp[hlt]⟩,Pv (i+1),fun σ' H' p'=>⟨xs.length-(i+1),by omega,rfl,hlt,p'⟩,fun x H' y=>?_⟩
  obtain⟨e,y⟩:=y;subst e;exact hs i x σ _ (y xs q) p
 ·have e:i=xs.length:=by omega
  subst e;exact .inl ⟨⟨xs,q,af _⟩,hd σ H p⟩
theorem Ra {K:ae}{a:Addr}{xs:List V}{g:TG}{tb:TS}{D:kK}{σ:St}{H:Hp}(Pv:Nat->St->Hp->Prop)(h0:Pv 0 σ H)(hl:∀ i σ H,i<=xs.length->Pv i σ H->SqT K H a xs)
  (hs:∀ i x σ H,xs[i]?=some x->Pv i σ H->g x σ H fun σ2 H2=>tb { D with nx:=Pv (i+1),ct:=Pv (i+1),bk:=D.nx } σ2 H2) (hd:∀ σ H,Pv xs.length σ H->D.nx σ H) :
  ∃ W:Nat->Nat->St->Hp->Prop,(∃ m,W 0 m σ H)∧∀ i m σ H,W i m σ H ->
   ((Itt K a).stop i H∧D.nx σ H)∨((Itt K a).go i H∧∃ N:St->Hp->Prop,(∀ σ' H',N σ' H'->∃ m',m'<m∧W (i+1) m' σ' H')∧∀ x H',(Itt K a).yld i H x H'->g x σ H' fun σ2 H2=>tb { D with nx:=N,ct:=N,bk:=D.nx } σ2 H2):=by
 refine⟨fun i m σ H=>m=xs.length-i∧i<=xs.length∧Pv i σ H,⟨xs.length,by simp,b8 _,h0⟩,?_⟩;rintro i m σ H ⟨rfl,hi,p⟩;have q:=hl i σ H hi p;by_cases hlt:i<xs.length
 ·refine .inr ⟨⟨xs,xs[i],q,by simp[hlt]⟩,Pv (i+1),fun σ' H' p'=>⟨xs.length-(i+1),by omega,rfl,hlt,p'⟩,fun x H' y=>?_⟩
  obtain⟨e,y⟩:=y;subst e;exact hs i x σ _ (y xs q) p
 ·have e:i=xs.length:=by omega
  subst e;exact .inl ⟨⟨xs,q,af _⟩,hd σ H p⟩
theorem pQ {lo:Int}{n:Nat}{g:TG}{tb:TS}{D:kK}{σ:St}{H:Hp}(Pv:Nat->St->Hp->Prop)(h0:Pv 0 σ H)
  (hs:∀ i σ H,i<n->Pv i σ H->g (.int (lo+i)) σ H fun σ2 H2=>tb { D with nx:=Pv (i+1),ct:=Pv (i+1),bk:=D.nx } σ2 H2) (hd:∀ σ H,Pv n σ H->D.nx σ H) :
  ∃ W:Nat->Nat->St->Hp->Prop,(∃ m,W 0 m σ H)∧∀ i m σ H,W i m σ H ->
   ((Itr lo n).stop i H∧D.nx σ H)∨((Itr lo n).go i H∧∃ N:St->Hp->Prop,(∀ σ' H',N σ' H'->∃ m',m'<m∧W (i+1) m' σ' H')∧∀ x H',(Itr lo n).yld i H x H'->g x σ H' fun σ2 H2=>tb { D with nx:=N,ct:=N,bk:=D.nx } σ2 H2):=by
 refine⟨fun i m σ H=>m=n-i∧i<=n∧Pv i σ H,⟨n,by simp,b8 _,h0⟩,?_⟩;rintro i m σ H ⟨rfl,hi,p⟩;by_cases hlt:i<n
 ·refine .inr ⟨hlt,Pv (i+1),fun σ' H' p'=>⟨n-(i+1),by omega,rfl,hlt,p'⟩,fun x H' y=>?_⟩
  obtain⟨e,y⟩:=y;subst e y;exact hs i σ _ hlt p
 ·have e:i=n:=by omega
  subst e;exact .inl ⟨af _,hd σ H p⟩
abbrev R2:=V->V->Hp->VK->Prop
def OpR (X:Cx)(f:Value->Value->Sem Value)(r:R2):Prop :=
 ∀ (pins:List (Addr×Obj)) (s:Shared) (σ:St) (H:Hp) (x y:V) (v u:Value) (Q:VK),Inv X pins σ H s->bE x v->bE y u->r x y H Q ->
  wpAny (model X.prog X.w) X.A (f v u) (EP X pins σ Q) X.xe s
def UnR (X:Cx)(f:Value->Sem Value)(r:V->Hp->VK->Prop):Prop :=
 ∀ (pins:List (Addr×Obj)) (s:Shared) (σ:St) (H:Hp) (x:V) (v:Value) (Q:VK),Inv X pins σ H s->bE x v->r x H Q ->
  wpAny (model X.prog X.w) X.A (f v) (EP X pins σ Q) X.xe s
def eP (X:Cx)(f:Value)(r:List V->Hp->VK->Prop):Prop :=
 ∀ (pins:List (Addr×Obj)) (s:Shared) (σ:St) (H:Hp) (xs:List V) (us:List Value) (Q:VK),Inv X pins σ H s->bR xs us->r xs H Q ->
  wpAny (model X.prog X.w) X.A (call f us) (EP X pins σ Q) X.xe s
def tOp (r:R2)(ta tb:TE):TE:=fun σ H Q=>ta σ H fun x H1=>tb σ H1 fun y H2=>r x y H2 Q
def tUn (r:V->Hp->VK->Prop)(ta:TE):TE:=fun σ H Q=>ta σ H fun x H1=>r x H1 Q
def rI (C:Int->Int->Prop)(g:Int->Int->V):R2:=fun x y H Q=>∃ i j,x = .int i∧y = .int j∧C i j∧Q (g i j) H
def rI0 (g:Int->Int->V):R2:=fun x y H Q=>∃ i j,x = .int i∧y = .int j∧Q (g i j) H
def rU (g:Int->V):V->Hp->VK->Prop:=fun x H Q=>∃ i,x = .int i∧Q (g i) H
section
variable {X:Cx}{a b c:Expr}{ta tb tc:TE}{pos:Pos}
theorem Tv (ha:PE X a ta)(hb:PE X b tb){pins:List (Addr×Obj)}{s:Shared}{σ:St}{H:Hp}{R:V->V->Hp->Prop}(I:Inv X pins σ H s)
  (h:ta σ H fun x H1=>tb σ H1 fun y H2=>R x y H2) {Q:Value->Shared->Prop} {f:Value->Value->Sem Value}
  (hf:∀ v u s2 x y H2,Inv X pins σ H2 s2->bE x v->bE y u->R x y H2->wpAny (model X.prog X.w) X.A (f v u) Q X.xe s2) :
  wpAny (model X.prog X.w) X.A (eval a X.env) (fun v s₁=>wpAny (model X.prog X.w) X.A (eval b X.env) (fun u s₂=>wpAny (model X.prog X.w) X.A (f v u) Q X.xe s₂) X.xe s₁) X.xe s:=by
 refine thn (ha pins s σ H _ I h) fun v s1 ⟨x,H1,I1,r1,q1⟩=>?_
 refine thn (hb pins s1 σ H1 _ I1 q1) fun u s2 ⟨y,H2,I2,r2,q2⟩=>?_
 exact hf v u s2 x y H2 I2 r1 r2 q2
theorem aU {op:Operator}{r:R2}(ho:OpR X (binaryOp op) r)(ha:PE X a ta)(hb:PE X b tb):PE X (.BinOp a op b pos) (tOp r ta tb):=by
 intro pins s σ H Q I h;exact wpAny_BinOp (Tv ha hb I h fun v u s2 x y H2 I2 rx ry q=>ho pins s2 σ H2 x y v u Q I2 rx ry q)
theorem nQ {op:UnaryOp}{r:V->Hp->VK->Prop}(ho:UnR X (unaryOp op) r)(ha:PE X a ta):PE X (.UnaryOp op a pos) (tUn r ta):=by
 intro pins s σ H Q I h;exact UnaryOp_ (thn (ha pins s σ H _ I h) fun v s1 ⟨x,H1,I1,r1,q1⟩=>ho pins s1 σ H1 x v Q I1 r1 q1)
theorem opI {f:Value->Value->Sem Value}{C:Int->Int->Prop}{g:Int->Int->Int}
  (rule:∀ (i j:Int) (t u:Tok) (s:Shared) (Q:Value->Shared->Prop) (E:Value->Shared->Prop),C i j->Q (.int (g i j) s.toks) { s with toks:=s.toks+1 }->wpAny (model X.prog X.w) X.A (f (.int i t) (.int j u)) Q E s) :
  OpR X f (rI C fun i j=>.int (g i j)):=by
 intro pins s σ H x y v u Q I rx ry h;obtain⟨i,j,rfl,rfl,hc,q⟩:=h;obtain⟨t,rfl⟩:=rx;obtain⟨t',rfl⟩:=ry;exact rule i j t t' s _ _ hc ⟨.int (g i j),H,I.tok _,⟨_,rfl⟩,q⟩
theorem Vp {f:Value->Value->Sem Value}{g:Int->Int->Int}
  (rule:∀ (i j:Int) (t u:Tok) (s:Shared) (Q:Value->Shared->Prop) (E:Value->Shared->Prop),Q (.int (g i j) s.toks) { s with toks:=s.toks+1 }->wpAny (model X.prog X.w) X.A (f (.int i t) (.int j u)) Q E s) :
  OpR X f (rI0 fun i j=>.int (g i j)):=by
 intro pins s σ H x y v u Q I rx ry h;obtain⟨i,j,rfl,rfl,q⟩:=h;obtain⟨t,rfl⟩:=rx;obtain⟨t',rfl⟩:=ry;exact rule i j t t' s _ _ ⟨.int (g i j),H,I.tok _,⟨_,rfl⟩,q⟩
theorem Qk {f:Value->Value->Sem Value}{g:Int->Int->Bool}
  (rule:∀ (i j:Int) (t u:Tok) (s:Shared) (Q:Value->Shared->Prop) (E:Value->Shared->Prop),Q (.bool (g i j)) s->wpAny (model X.prog X.w) X.A (f (.int i t) (.int j u)) Q E s) :
  OpR X f (rI0 fun i j=>.bl (g i j)):=by
 intro pins s σ H x y v u Q I rx ry h;obtain⟨i,j,rfl,rfl,q⟩:=h;obtain⟨t,rfl⟩:=rx;obtain⟨t',rfl⟩:=ry;exact rule i j t t' s _ _ ⟨.bl (g i j),H,I,rfl,q⟩
def Ww (i j:Int):Prop:=0<j∧j<1073741824
def Tu (i j:Int):Prop:=(-(2 ^ 64)<i∧i<2 ^ 64)∨(-(2 ^ 64)<j∧j<2 ^ 64)
theorem Tu.ok {i j:Int}(h:Tu i j):IntMulOk i j:=by
 rcases h with ⟨h1,h2⟩ | ⟨h1,h2⟩
 ·exact .of_left (intBits_le_64 h1 h2)
 ·exact .of_right (intBits_le_64 h1 h2)
theorem eB:OpR X (binaryOp .Add) (rI0 fun i j=>.int (i+j)):=Vp fun _ _ _ _ _ _ _ q=>add_int q
theorem eK:OpR X (binaryOp .Sub) (rI0 fun i j=>.int (i-j)):=Vp fun _ _ _ _ _ _ _ q=>sub_int q
theorem xT:OpR X (binaryOp .Mult) (rI Tu fun i j=>.int (i*j)):=opI fun _ _ _ _ _ _ _ hc q=>mul_int q hc.ok
theorem rK:OpR X (binaryOp .FloorDiv) (rI Ww fun i j=>.int (i/j)):=opI fun i j _ _ _ _ _ hc q=>by
 have h1:(0:Int)<j:=hc.1;have h2:j<1073741824:=hc.2;exact floordiv_int (by omega) (by rw[l6 i (by omega)];exact q) (.inl (PyProof.noPylong_small (by omega)))
theorem eL:OpR X (binaryOp .Mod) (rI (fun _ j=>0<j) fun i j=>.int (i % j)):=opI fun i j _ _ _ _ _ hc q=>by
 have h1:(0:Int)<j:=hc;exact mod_int' (by omega) (by rw[Int.fmod_eq_emod_of_nonneg i (by omega)];exact q)
theorem unI {f:Value->Sem Value}{g:Int->Int}
  (rule:∀ (i:Int) (t:Tok) (s:Shared) (Q:Value->Shared->Prop) (E:Value->Shared->Prop),Q (.int (g i) s.toks) { s with toks:=s.toks+1 }->wpAny (model X.prog X.w) X.A (f (.int i t)) Q E s) :
  UnR X f (rU fun i=>.int (g i)):=by
 intro pins s σ H x v Q I rx h;obtain⟨i,rfl,q⟩:=h;obtain⟨t,rfl⟩:=rx;exact rule i t s _ _ ⟨.int (g i),H,I.tok _,⟨_,rfl⟩,q⟩
theorem kD:UnR X (unaryOp .USub) (rU fun i=>.int (-i)):=unI fun _ _ _ _ _ q=>neg_int q
end
def Wa:V->V->Bool
 | .non,.non=>true | .non,.int _=>true | .int _,.non=>true | .non,.bl _=>true | .bl _,.non=>true | .non,.str _=>true | .str _,.non=>true
 | .int _,.int _=>true | .bl _,.bl _=>true | .str _,.str _=>true | .byt _,.byt _=>true
 | .int _,.str _=>true | .str _,.int _=>true | .bl _,.str _=>true | .str _,.bl _=>true
 | _,_=>false
def rEq:R2:=fun x y H Q=>Wa x y=true∧Q (.bl (decide (x=y))) H
def rNe:R2:=fun x y H Q=>Wa x y=true∧Q (.bl (!decide (x=y))) H
theorem rF {i j:Int}:decide (V.int i=V.int j)=(i==j):=by
 rw[c7];simp
theorem Ky {i j:Bool}:decide (V.bl i=V.bl j)=(i==j):=by
 rw[c7];simp
theorem Gz {i j:Str}:decide (V.str i=V.str j)=(i==j):=by
 rw[c7];simp
theorem Ft {i j:Array UInt8}:decide (V.byt i=V.byt j)=(i.toList==j.toList):=by
 rw[c7];cases i;cases j;simp
section
variable {X:Cx}{a b c:Expr}{ta tb tc:TE}{pos:Pos}
theorem bO {pins:List (Addr×Obj)}{σ:St}{H:Hp}{s:Shared}{Q:VK}{k k':Bool}(I:Inv X pins σ H s)(q:Q (.bl k) H)(e:k=k'):EP X pins σ Q (.bool k') s:=by
 subst e;exact⟨.bl k,H,I,rfl,q⟩
theorem Ry:OpR X (compareOp .Eq) rEq:=by
 intro pins s σ H x y v u Q I rx ry h;obtain⟨hs,q⟩:=h
 cases x with
 | non =>
  cases rx
  cases y with
  | non=>cases ry;exact PySem.EqNone.eq_none_none (bO I q (by simp))
  | bl j=>cases ry;exact PySem.EqNone.eq_none_bool (bO I q (by simp))
  | int j=>obtain⟨t',rfl⟩:=ry;exact PySem.EqNone.eq_none_int (bO I q (by simp))
  | str j=>obtain⟨t',rfl⟩:=ry;exact PySem.EqNone.eq_none_str (bO I q (by simp))
  | _=>exact absurd (show false=true from hs) ak
 | bl i =>
  cases rx
  cases y with
  | non=>cases ry;exact PySem.EqNone.eq_bool_none (bO I q (by simp))
  | bl j=>cases ry;exact eq_bool (bO I q Ky)
  | str j=>obtain⟨t',rfl⟩:=ry;exact sq (bO I q (by simp))
  | _=>exact absurd (show false=true from hs) ak
 | int i =>
  obtain⟨t,rfl⟩:=rx
  cases y with
  | non=>cases ry;exact PySem.EqNone.eq_int_none (bO I q (by simp))
  | int j=>obtain⟨t',rfl⟩:=ry;exact eq_int (bO I q rF)
  | str j=>obtain⟨t',rfl⟩:=ry;exact sx (bO I q (by simp))
  | _=>exact absurd (show false=true from hs) ak
 | str i =>
  obtain⟨t,rfl⟩:=rx
  cases y with
  | non=>cases ry;exact PySem.EqNone.eq_str_none (bO I q (by simp))
  | bl j=>cases ry;exact sr (bO I q (by simp))
  | int j=>obtain⟨t',rfl⟩:=ry;exact sy (bO I q (by simp))
  | str j=>obtain⟨t',rfl⟩:=ry;exact eq_str (bO I q Gz)
  | _=>exact absurd (show false=true from hs) ak
 | byt i =>
  obtain⟨t,rfl⟩:=rx
  cases y with
  | byt j=>obtain⟨t',rfl⟩:=ry;exact PySem.W.eq_bytes (bO I q Ft)
  | _=>exact absurd (show false=true from hs) ak
 | _=>cases y <;> exact absurd (show false=true from hs) ak
theorem Rm:OpR X (compareOp .NotEq) rNe:=by
 intro pins s σ H x y v u Q I rx ry h;obtain⟨hs,q⟩:=h
 cases x with
 | non =>
  cases rx
  cases y with
  | non=>cases ry;exact PySem.EqNone.ne_none_none (bO I q (by simp))
  | bl j=>cases ry;exact PySem.EqNone.ne_none_bool (bO I q (by simp))
  | int j=>obtain⟨t',rfl⟩:=ry;exact PySem.EqNone.ne_none_int (bO I q (by simp))
  | str j=>obtain⟨t',rfl⟩:=ry;exact PySem.EqNone.ne_none_str (bO I q (by simp))
  | _=>exact absurd (show false=true from hs) ak
 | bl i =>
  cases rx
  cases y with
  | non=>cases ry;exact PySem.EqNone.ne_bool_none (bO I q (by simp))
  | bl j=>cases ry;exact ne_bool (bO I q (congrArg not Ky))
  | str j=>obtain⟨t',rfl⟩:=ry;exact su (bO I q (by simp))
  | _=>exact absurd (show false=true from hs) ak
 | int i =>
  obtain⟨t,rfl⟩:=rx
  cases y with
  | non=>cases ry;exact PySem.EqNone.ne_int_none (bO I q (by simp))
  | int j=>obtain⟨t',rfl⟩:=ry;exact ne_int (bO I q (congrArg not rF))
  | str j=>obtain⟨t',rfl⟩:=ry;exact tf (bO I q (by simp))
  | _=>exact absurd (show false=true from hs) ak
 | str i =>
  obtain⟨t,rfl⟩:=rx
  cases y with
  | non=>cases ry;exact PySem.EqNone.ne_str_none (bO I q (by simp))
  | bl j=>cases ry;exact sw (bO I q (by simp))
  | int j=>obtain⟨t',rfl⟩:=ry;exact ti (bO I q (by simp))
  | str j=>obtain⟨t',rfl⟩:=ry;exact ne_str (bO I q (congrArg not Gz))
  | _=>exact absurd (show false=true from hs) ak
 | byt i =>
  obtain⟨t,rfl⟩:=rx
  cases y with
  | byt j=>obtain⟨t',rfl⟩:=ry;exact PySem.W.ne_bytes (bO I q (congrArg not Ft))
  | _=>exact absurd (show false=true from hs) ak
 | _=>cases y <;> exact absurd (show false=true from hs) ak
theorem lU:OpR X (compareOp .Lt) (rI0 fun i j=>.bl (decide (i<j))):=Qk fun _ _ _ _ _ _ _ q=>lt_int q
theorem Rn:OpR X (compareOp .LtE) (rI0 fun i j=>.bl (decide (i<=j))):=Qk fun _ _ _ _ _ _ _ q=>le_int q
theorem qC:OpR X (compareOp .Gt) (rI0 fun i j=>.bl (decide (j<i))):=Qk fun _ _ _ _ _ _ _ q=>gt_int q
theorem Rq:OpR X (compareOp .GtE) (rI0 fun i j=>.bl (decide (j<=i))):=Qk fun _ _ _ _ _ _ _ q=>ge_int q
theorem Iz:OpR X (compareOp .Lt) (fun x y H Q=>∃ i j,x = .str i∧y = .str j∧Q (.bl (decide (i.cps.toList<j.cps.toList))) H):=by
 intro pins s σ H x y v u Q I rx ry h;obtain⟨i,j,rfl,rfl,q⟩:=h;obtain⟨t,rfl⟩:=rx;obtain⟨t',rfl⟩:=ry;exact lt_str (bO I q rfl)
theorem xA:OpR X (compareOp .NotIn) (fun x y H Q=>∃ i j,x = .str i∧y = .str j∧Q (.bl (!(!(Builtin.Str.occurrences j i 0 j.length 1).isEmpty))) H):=by
 intro pins s σ H x y v u Q I rx ry h;obtain⟨i,j,rfl,rfl,q⟩:=h;obtain⟨t,rfl⟩:=rx;obtain⟨t',rfl⟩:=ry;exact notIn_str (bO I q rfl)
theorem aY (b:Expr){op:CmpOp}(h:op≠.In:=by decide)(h2:op≠.NotIn:=by decide):behindInMarks op b=false:=by
 have e1:(op==CmpOp.In)=false:=by cases op <;> first | rfl | exact absurd rfl h
 have e2:(op==CmpOp.NotIn)=false:=by cases op <;> first | rfl | exact absurd rfl h2
 cases b <;> simp[behindInMarks,e1,e2]
theorem iV {op:CmpOp}{r:R2}(ho:OpR X (compareOp op) r)(ha:PE X a ta)(hb:PE X b tb)(hm:behindInMarks op b=false):PE X (.Compare a [op] [b] pos) (tOp r ta tb):=by
 intro pins s σ H Q I h;exact wpAny_Compare1 (Tv ha hb I h fun v u s2 x y H2 I2 rx ry q=>ho pins s2 σ H2 x y v u Q I2 rx ry q) hm
def Va (t:TE):TT:=fun σ H Q=>t σ H fun x H'=>∃ k,x = .bl k∧Q k H'
theorem aW {op:CmpOp}{r:R2}(ho:OpR X (compareOp op) r)(ha:PE X a ta)(hb:PE X b tb)(hm:behindInMarks op b=false):PT X (.Compare a [op] [b] pos) (Va (tOp r ta tb)):=by
 intro pins s σ H Q I h;refine wpAny_isTrue_Compare1 (thn (ha pins s σ H _ I h) fun v s1 ⟨x,H1,I1,r1,q1⟩=>thn (hb pins s1 σ H1 _ I1 q1) fun u s2 ⟨y,H2,I2,r2,q2⟩ =>
  thn (ho pins s2 σ H2 x y v u _ I2 r1 r2 q2) fun c s3 ⟨z,H3,I3,r3,k,e,q3⟩=>?_) hm
 subst e;cases r3;exact wpAny_truthy_bool ⟨H3,I3,q3⟩
def Sj (r r':R2)(ta tb tc:TE):TE:=fun σ H Q=>ta σ H fun x H1=>tb σ H1 fun y H2=>r x y H2 fun z H3=>∃ k,z = .bl k ∧
 (if k=true then tc σ H3 fun w' H4=>r' y w' H4 Q else Q (.bl false) H3)
theorem Kq {op op':CmpOp}{r r':R2}(ho:OpR X (compareOp op) r)(ho':OpR X (compareOp op') r')(ha:PE X a ta)(hb:PE X b tb)(hc:PE X c tc)
  (hm:lastMarks [op,op'] [b,c]=false:=by with_unfolding_all rfl):PE X (.Compare a [op,op'] [b,c] pos) (Sj r r' ta tb tc):=by
 intro pins s σ H Q I h;refine Compare_chain (thn (ha pins s σ H _ I h) fun v s1 ⟨x,H1,I1,r1,q1⟩=>chain_link (thn (hb pins s1 σ H1 _ I1 q1) fun u s2 ⟨y,H2,I2,r2,q2⟩ =>
  thn (ho pins s2 σ H2 x y v u _ I2 r1 r2 q2) fun d s3 ⟨z,H3,I3,r3,k,e,q3⟩=>?_)) hm
 subst e;cases r3;refine wpAny_truthy_bool ?_
 cases k with
 | false=>exact ite_ff ⟨.bl false,H3,I3,rfl,q3⟩
 | true=>exact ite_tt (chain_last (thn (hc pins s3 σ H3 _ I3 q3) fun w' s4 ⟨z',H4,I4,r4,q4⟩=>ho' pins s4 σ H4 y z' u w' Q I4 r2 r4 q4))
theorem rZ:(sizeLine:Nat)<2 ^ 63:=by rw[sizeLine_eq];decide
theorem De:OpR X (binaryOp .Add) (fun x y H Q=>∃ i j,x = .str i∧y = .str j∧i.length+j.length<=sizeLine∧Q (.str (i++j)) H):=by
 intro pins s σ H x y v u Q I rx ry h;obtain⟨i,j,rfl,rfl,hz,q⟩:=h;obtain⟨t,rfl⟩:=rx;obtain⟨t',rfl⟩:=ry;exact add_str (fun t' tk=>⟨.str (i++j),H,I.tok _,⟨_,rfl⟩,q⟩) hz
theorem gD {x:V}{us:List Value}(r:bR [x] us):∃ u,us=[u]∧bE x u:=by
 cases r with
 | cons r1 r2=>cases r2;exact⟨_,rfl,r1⟩
theorem Vm {x y:V}{us:List Value}(r:bR [x,y] us):∃ u w',us=[u,w']∧bE x u∧bE y w':=by
 cases r with
 | cons r1 r2 =>
  cases r2 with
  | cons r3 r4=>cases r4;exact⟨_,_,rfl,r1,r3⟩
theorem Mh:eP X (.builtin "abs") (fun xs H Q=>∃ i,xs=[.int i]∧Q (.int (if i<0 then -i else i)) H):=by
 intro pins s σ H xs us Q I r h;obtain⟨i,rfl,q⟩:=h;obtain⟨u,rfl,t,rfl⟩:=gD r;exact call_abs_int fun u tk=>⟨.int (if i<0 then -i else i),H,I.tok _,⟨_,rfl⟩,q⟩
end
structure Hs (h:Heap)(x dx C:Addr)(mA:Str->Option Value):Prop where
 obj:h.get? x=some (gh C dx)
 ns:h.Ns1 dx mA
 ne:dx≠x
theorem Hx {h:Heap}{dx:Addr}{mA:Str->Option Value}(n:h.Ns1 dx mA):∃ od,h.get? dx=some od∧∀ name,oz name od=some (mA name):=by
 obtain⟨o,es,ep,ho,hd,hk,_,hm⟩:=n;refine⟨o,ho,fun name=>?_⟩;have e:=hm name;unfold nsFind findBy at e;rw[<- Array.find?_toList] at e;unfold oz;rw[hd]
 dsimp only
 split
 ·rename_i y q
  rw[q] at e;exact congrArg some e
 ·rename_i q
  rw[q] at e;have a:es.toList.any (·.refKey)=false:=by
   rw[List.any_eq_false];intro y hy;obtain⟨z,t,hkey⟩:=hk y (Array.mem_toList_iff.mp hy);simp[DictEntry.refKey,hkey]
  have a':¬ es.toList.any (·.refKey)=true:=by rw[a];exact ak
  rw[if_neg a'];exact congrArg some e
theorem Hs.look {h:Heap}{x dx C:Addr}{mA:Str->Option Value}(I:Hs h x dx C mA):∃ od,PySem.W.InstAt h x (gh C dx) C (some od)∧∀ name,oz name od=some (mA name) :=
 let ⟨od,ho,hl⟩:=Hx I.ns
 ⟨od,⟨I.obj,rfl,rfl,ho⟩,hl⟩
section
variable {prog:Program}{w:World}{A:Around}{E:Value->Shared->Prop}{s:Shared}{K:ae}{x dx C f:Addr}{mA:Str->Option Value}{name:Str}{v:Value}
theorem Pc {expr:Bool}{Q:Value->Shared->Prop}(X:K.In s.heap)(I:Hs s.heap x dx C mA)(hg:ky K C name=true)(hh:ke K C=true)
  (ha:dz K (.ref C) name=some none) (hv:mA name=some v) (hv':qx v=true) (h:Q v { s with toks:=s.toks+1 }) :
  wpAny (model prog w) A (getAttr (.ref x) name expr) Q E s:=by
 obtain⟨od,J,hl⟩:=I.look;exact PySem.W.get_value X J (PySem.W.plainGet_of hg).1 (PySem.W.findObj_own hh ha rfl (by rw[hl,hv])) hv' h
theorem Pa {ns:List Str}{Q:Unit->Shared->Prop}(X:K.In s.heap)(I:Hs s.heap x dx C mA)
  (hs:dz K (.ref C) "__setattr__" = some (some (.builtin "object.__setattr__"))) (hp:ml K C=true) (ht:n0 K C name=some none) (hh:ke K C=true)
  (hw:qg mA ns) (hsz:ns.length<=sizeLine)
  (h:∀ h',Hs h' x dx C (fun y=>if y=name then some v else mA y)->Heap.SameBut dx s.heap h'->Q () { s with heap:=h',toks:=s.toks+2 }) :
  wpAny (model prog w) A (setAttr (.ref x) name v) Q E s:=by
 obtain⟨od,J,hl⟩:=I.look;refine PySem.W.set_plain X J hs (PySem.W.osa_open (s:={ s with toks:=s.toks+1 }) (r:=none) X J hp ht fun b=>?_);obtain⟨cd,hc,hd'⟩:=PySem.W.any_some hh;have hx:s.heap.get? x=some ⟨.ref C,some dx,.plain,#[]⟩:=I.obj;refine wpAny_bind (wpAny_pure (wpAny_bind (wpAny_bind (wpAny_loadPart hx (wpAny_bind (ub (s:={ s with toks:=s.toks+1 }) (PySem.W.looks_clsIn X hc) ?_))))));rw[hd'];refine wpAny_pure (a:=some dx) (wpAny_bind (wpAny_pure (wpAny_bind ?_)));refine wpAny_nsSet1 (s:={ s with toks:=s.toks+1 }) I.ns fun h' hn2 hs2=>?_
 obtain⟨oD,esD,epD,hoD,hdD,hcD⟩:=hn2.count (PySem.Within.cons name v hw);refine wpAny_bind (wpAny_lookBehind hoD (by rw[hdD];exact pastItsLine_dict (a5 hcD (by rw[a9];omega))) ?_);exact wpAny_pure (h _ ⟨(hs2.2 _ (Ne.symm I.ne)).trans I.obj,hn2,I.ne⟩ hs2)
theorem Mn {R:Result->Shared->Prop}{vs:List Value}{kw:List (Str×Value)}(X:K.In s.heap)(hm:n6 K C=true)
  (hi:dz K (.ref C) "__init__" = some (some (.ref f))) (hf:PySem.W.typeIn K (.ref f)=some (.type "function"))
  (h:codeAny (model prog w) (A.under (.builtin "type.__call__" ⟨.ref C::vs,kw⟩)) (.call (.ref f) ⟨.ref (s.heap.objs.size+1)::vs,kw⟩) (PySem.W.InitBack (s.heap.objs.size+1) R)
   { s with heap:=(s.heap.push et).push (gh C s.heap.objs.size) }) :
  codeAny (model prog w) A (.call (.ref C) ⟨vs,kw⟩) R s:=by
 obtain⟨hh,g,d,t,os⟩:=s;exact PySem.W.make_core (PySem.W.makes_of X hm) (PySem.W.looks_findIn X hi) (fun self=>PySem.W.bind_fn X self hf) (.inl rfl) h
end
def kE (f:Str)(v:V):List (Str×V)->List (Str×V)
 | []=>[(f,v)]
 | (g,x)::r=>if g=f then (g,v)::r else (g,x)::kE f v r
theorem hG (f g:Str)(v:V):∀ fs:List (Str×V),(kE f v fs).lookup g=if g=f then some v else fs.lookup g
 | []=>by
  show jd g [(f,v)]=_;by_cases h:g=f
  ·have hb:(g==f)=true:=beq_iff_eq.mpr h
   simp only [jd,hb,if_pos h]
  ·have hb:(g==f)=false:=beq_eq_false_iff_ne.mpr h
   simp only [jd,hb,if_neg h]
 | (k,x)::r=>by
  have ih:=hG f g v r;rw[show kE f v ((k,x)::r)=(if k=f then (k,v)::r else (k,x)::kE f v r) from rfl];by_cases hk:k=f
  ·rw[if_pos hk]
   by_cases h:g=k
   ·have hb:(g==k)=true:=beq_iff_eq.mpr h
    simp only [jd,hb,if_pos (h.trans hk)]
   ·have hb:(g==k)=false:=beq_eq_false_iff_ne.mpr h
    simp only [jd,hb,if_neg (fun e:g=f=>h (e.trans hk.symm))]
  ·rw[if_neg hk]
   by_cases h:g=k
   ·have hb:(g==k)=true:=beq_iff_eq.mpr h
    simp only [jd,hb,if_neg (fun e:g=f=>hk (h.symm.trans e))]
   ·have hb:(g==k)=false:=beq_eq_false_iff_ne.mpr h
    simp only [jd,hb];exact ih
theorem oX (f:Str)(v:V):∀ fs:List (Str×V),f∈(kE f v fs).map (·.1)∧∀ g,g∈fs.map (·.1)->g∈(kE f v fs).map (·.1)
 | []=>⟨by simp[kE],fun g h=>by simp at h⟩
 | (k,x)::r=>by
  obtain⟨i1,i2⟩:=oX f v r;rw[show kE f v ((k,x)::r)=(if k=f then (k,v)::r else (k,x)::kE f v r) from rfl];by_cases hk:k=f
  ·rw[if_pos hk]
   subst hk;exact⟨by simp,fun g h=>by simpa using h⟩
  ·rw[if_neg hk]
   refine⟨?_,fun g h=>?_⟩
   ·rw[am]
    exact ah _ i1
   ·rw[am] at h ⊢
    rcases aw.mp h with e | e
    ·exact aw.mpr (.inl e)
    ·exact ah _ (i2 g e)
theorem pY (f:Str)(v:V):∀ fs:List (Str×V),(kE f v fs).length<=fs.length+1
 | []=>by simp[kE]
 | (k,x)::r=>by
  have ih:=pY f v r;rw[show kE f v ((k,x)::r)=(if k=f then (k,v)::r else (k,x)::kE f v r) from rfl];by_cases hk:k=f
  ·rw[if_pos hk,a9,a9];omega
  ·rw[if_neg hk,a9,a9];omega
theorem jJ.some_of {v:V}{o:Option Value}(r:jJ (some v) o):∃ u,o=some u∧bE v u:=by
 cases o with
 | none=>exact (show False from r).elim
 | some u=>exact⟨u,rfl,r⟩
theorem jJ.none_of {o:Option Value}(r:jJ none o):o=none:=by
 cases o with
 | none=>rfl
 | some u=>exact (show False from r).elim
theorem Ii {v:V}{u:Value}(r:bE v u):qx u=true:=by
 cases v with
 | non=>cases (show u=Value.none from r);rfl
 | bl b=>cases (show u=Value.bool b from r);rfl
 | int i=>obtain⟨t,e⟩:=(show ∃ t,u=Value.int i t from r);cases e;rfl
 | str x=>obtain⟨t,e⟩:=(show ∃ t,u=Value.str x t from r);cases e;rfl
 | byt b=>obtain⟨t,e⟩:=(show ∃ t,u=Value.bytes b t from r);cases e;rfl
 | flt b=>obtain⟨t,e⟩:=(show ∃ t,u=Value.float b t from r);cases e;rfl
 | ref a=>cases (show u=Value.ref a from r);rfl
 | ty n=>cases (show u=Value.type n from r);rfl
section
variable {P:Program}{w:World}{H H':Hp}{h h':Heap}{a C dx:Addr}{fs fs':List (Str×V)}
theorem yH (hok:HOk P w H h)(e:H a=some (.ins C dx fs)):∃ mA,Hs h a dx C mA∧(∀ f,jJ (fs.lookup f) (mA f))∧qg mA (fs.map (·.1))∧fs.length<=1000∧H dx=some (.own a):=by
 obtain⟨d,z,ne,ob,mA,n,r,q⟩:=(show cH P w H h a (.ins C dx fs) from hok a _ e);exact⟨mA,⟨ob,n,ne⟩,r,q,z,d⟩
end
structure Cls (K:ae)(C:Addr):Prop where
 pg:ky K C Str.empty=true
 hd:ke K C=true
 po:ml K C=true
 sa:dz K (.ref C) "__setattr__" = some (some (.builtin "object.__setattr__"))
theorem Cls.get {K:ae}{C:Addr}(c:Cls K C)(f:Str):ky K C f=true:=c.pg
def kU (K:ae)(C:Addr)(f:Str):Prop:=dz K (.ref C) f=some none
theorem kU.taker {K:ae}{C:Addr}{f:Str}(n:kU K C f):n0 K C f=some none:=by
 unfold n0;rw[show dz K (.ref C) f=some none from n];rfl
section
variable {X:Cx}{pins:List (Addr×Obj)}{σ:St}{H:Hp}{s:Shared}{a C dx:Addr}{fs:List (Str×V)}{f:Str}{v:V}{A:Around}{E:Value->Shared->Prop}
theorem Ds {b:Bool}{Q:Value->Shared->Prop}(I:Inv X pins σ H s)(e:H a=some (.ins C dx fs))(c:Cls X.K C)(n:kU X.K C f)(l:fs.lookup f=some v)
  (h:∀ u s',Inv X pins σ H s'->bE v u->Q u s'):wpAny (model X.prog X.w) A (getAttr (.ref a) f b) Q E s:=by
 obtain⟨mA,O,r,_,_,_⟩:=yH I.hok e;obtain⟨u,hu,ru⟩:=jJ.some_of (v:=v) (o:=mA f) (by rw[<- l];exact r f);exact Pc I.kIn O (c.get f) c.hd n hu (Ii ru) (h u _ (I.tok _) ru)
theorem Cw {y:V}{u:Value}{Q:Unit->Shared->Prop}(I:Inv X pins σ H s)(e:H a=some (.ins C dx fs))(c:Cls X.K C)(n:kU X.K C f)(hl:fs.length<1000)(ry:bE y u)
  (h:∀ s',Inv X pins σ (upd H a (.ins C dx (kE f y fs))) s'->Q () s'):wpAny (model X.prog X.w) A (setAttr (.ref a) f u) Q E s:=by
 obtain⟨mA,O,r,wi,_,ho⟩:=yH I.hok e;have hz:(fs.map (·.1)).length<=sizeLine:=by rw[aR,sizeLine_eq];omega
 refine Pa I.kIn O c.sa c.po n.taker c.hd wi hz fun h' O' sb=>h _ ?_
 have hd:∃ o,h'.get? dx=some o:=let ⟨o,_,_,e',_⟩:=O'.ns;⟨o,e'⟩
 refine I.write (x:=a) (e:=dx) (by rw[e];exact True.intro) (.inr ho) (fun b q hb z=>(sb.2 b hb).trans z) hd ?_;refine⟨by rw[aK O.ne];exact ho,?_,O.ne,O'.obj,_,O'.ns,fun g=>?_,fun g hg=>?_⟩
 ·have:=pY f y fs;omega
 ·show jJ ((kE f y fs).lookup g) (if g=f then some u else mA g)
  rw[hG];by_cases q:g=f
  ·rw[if_pos q,if_pos q];exact ry
  ·rw[if_neg q,if_neg q];exact r g
 ·by_cases q:g=f
  ·rw[q];exact (oX f y fs).1
  ·refine (oX f y fs).2 g (wi g fun z=>hg ?_)
   show (if g=f then some u else mA g)=none;rw[if_neg q];exact z
theorem Inv.made (I:Inv X pins σ H s):Inv X pins σ (upd (upd H s.heap.objs.size (.own (s.heap.objs.size+1))) (s.heap.objs.size+1) (.ins C s.heap.objs.size []))
  { s with heap:=(s.heap.push et).push (gh C s.heap.objs.size) }:=by
 have e1:(s.heap.push et).get? s.heap.objs.size=some et:=Heap.get?_push_size s.heap rfl;have e2:((s.heap.push et).push (gh C s.heap.objs.size)).get? (s.heap.objs.size+1)=some (gh C s.heap.objs.size):=by
  have:=Heap.get?_push_size (s.heap.push et) (o:=gh C s.heap.objs.size) rfl
  rwa [Heap.size_push] at this
 have e3:(s.heap.push et).Ns s.heap.objs.size (fun _=>none):=⟨et,#[],_,e1,rfl,(fun e he=>absurd he (by simp)),fun _=>rfl⟩;have I1:=I.laid (a:=s.heap.objs.size) (o:=.own (s.heap.objs.size+1)) (h':=s.heap.push et) (t':=s.toks) (fun b u q=>Heap.get?_push_of_some _ q) (af _) ⟨_,e1⟩;refine I1.laid (a:=s.heap.objs.size+1) (o:=.ins C s.heap.objs.size []) (t':=s.toks) (fun b u q=>Heap.get?_push_of_some _ q) (lu (Heap.size_push _ _)) ?_;have ne:s.heap.objs.size≠s.heap.objs.size+1:=a7 (fc _);refine⟨by rw[aK ne,aE],b8 _,ne,e2,fun _=>none,(Heap.Ns1.of_empty e3).at fun o q=>Heap.get?_push_of_some _ q,fun _=>True.intro,fun y hy=>absurd rfl hy⟩
theorem Px {prog:Program}{w:World}{env:Env}{e:Expr}{f:Str}{pos:Pos}{s:Shared}{Q:Value->Shared->Prop}(hb:attributeBase e f env (eval e env)=eval e env)
  (h:wpAny (model prog w) A (eval e env) (fun o s₁=>wpAny (model prog w) A (getAttr o f true) Q E s₁) E s):wpAny (model prog w) A (eval (.Attribute e f pos) env) Q E s :=
 Attribute_any_ h (by rw[arm_eval_Attribute,hb])
end
def Xb (K:ae)(ta:TE)(f:Str):TE:=fun σ H Q=>ta σ H fun x H1=>∃ a C dx fs v,x = .ref a∧H1 a=some (.ins C dx fs)∧Cls K C∧kU K C f∧fs.lookup f=some v∧Q v H1
def Xx (K:ae)(ta tv:TE)(f:Str):TS:=fun D σ H=>tv σ H fun y H1=>ta σ H1 fun x H2=>∃ a C dx fs,x = .ref a∧H2 a=some (.ins C dx fs)∧Cls K C∧kU K C f∧fs.length<1000 ∧
 D.nx σ (upd H2 a (.ins C dx (kE f y fs)))
section
variable {X:Cx}{o e value:Expr}{f:Str}{pos pos' tpos:Pos}{ta tv:TE}
theorem fF (he:PE X e ta)(hb:attributeBase e f X.env (eval e X.env)=eval e X.env):PE X (.Attribute e f pos) (Xb X.K ta f):=by
 intro pins s σ H Q I h;refine Px hb (thn (he pins s σ H _ I h) fun u s1 ⟨x,H1,I1,rx,a,C,dx,fs,v,ex,ea,c,n,l,q⟩=>?_);subst ex;obtain rfl:u=Value.ref a:=rx;exact Ds I1 ea c n l fun u' s2 I2 ru=>⟨v,H1,I2,ru,q⟩
theorem Oc (ha:PE X o ta)(hv:PE X value tv)(hs:swapsWith value (some (.Attribute o f pos')) pos.line X.env=pure false):PS X (.Assign [.Attribute o f pos'] value pos) (Xx X.K ta tv f):=by
 intro pins s σ H D I h;refine plainObj_wpAny_Assign_Attribute (thn (hv pins s σ H _ I h) fun u s1 ⟨y,H1,I1,ry,q⟩=>thn (ha pins s1 σ H1 _ I1 q) fun ov s2 ⟨x,H2,I2,rx,a,C,dx,fs,ex,ea,c,n,l,q2⟩=>?_) hs;subst ex;obtain rfl:ov=Value.ref a:=rx;exact Cw I2 ea c n l ry fun s3 I3=>⟨σ,_,I3,q2⟩
end
section
variable {X:Cx}{pins:List (Addr×Obj)}{σ:St}{H:Hp}{s:Shared}{A:Around}{E:Value->Shared->Prop}{Q:Value->Shared->Prop}{c:Value}{b:Bool}
inductive pJ (K:ae)(H:Hp):V->Value->Prop where
 | non:pJ K H .non (.type "NoneType")
 | bl (x:Bool):pJ K H (.bl x) (.type "bool")
 | int (i:Int):pJ K H (.int i) (.type "int")
 | str (x:Str):pJ K H (.str x) (.type "str")
 | flt (x:UInt64):pJ K H (.flt x) (.type "float")
 | lst {a:Addr} {xs:List V} (e:H a=some (.lst xs)):pJ K H (.ref a) (.type "list")
 | frz {a:Addr} {o:Obj} {xs:List V} (e:H a=some (.frz o (.lst xs))):pJ K H (.ref a) (.type "list")
 | tup {a:Addr} {xs:List V} (e:H a=some (.tup xs)):pJ K H (.ref a) (.type "tuple")
 | dK {a:Addr} {kvs:List (Key×V)} (e:H a=some (.dK kvs)):pJ K H (.ref a) (.type "dict")
 | dT {a:Addr} {kvs:List (List Key×V)} (e:H a=some (.dT kvs)):pJ K H (.ref a) (.type "dict")
 | ins {a C dx:Addr} {fs:List (Str×V)} (e:H a=some (.ins C dx fs)) (cl:Cls K C) (ha:dz K (.ref C) "__class__" = some (some (.builtin "object.__class__")))
  (hn:PySem.W.specialIn K (.builtin "object.__class__") "__get__" = some (some (.builtin "getset_descriptor.__get__"))) (htk:PySem.W.takesIn K (.builtin "object.__class__")=some true)
  (hm:PySem.W.mroIn K C (.type "object")=some true):pJ K H (.ref a) (.ref C)
theorem Ja {x:V}{u t:Value}(I:Inv X pins σ H s)(rx:bE x u)(ty:pJ X.K H x t)(e:je X.K t c=some b)(h:∀ tk,Q (.bool b) { s with toks:=tk }) :
  wpAny (model X.prog X.w) A (call (.builtin "isinstance") [u,c]) Q E s:=by
 cases ty with
 | non=>cases (show u=Value.none from rx);exact d9 PySem.W.kitx_none I.kIn True.intro e (fun z=>nomatch z) h
 | bl y=>cases (show u=Value.bool y from rx);exact d9 PySem.W.kitx_bool I.kIn True.intro e (fun z=>nomatch z) h
 | int i=>obtain⟨t,q⟩:=(show ∃ t,u=Value.int i t from rx);cases q;exact d9 PySem.W.kitx_int I.kIn True.intro e (fun z=>nomatch z) h
 | str y=>obtain⟨t,q⟩:=(show ∃ t,u=Value.str y t from rx);cases q;exact d9 PySem.W.kitx_str I.kIn True.intro e (fun z=>nomatch z) h
 | flt y=>obtain⟨t,q⟩:=(show ∃ t,u=Value.float y t from rx);cases q;exact d9 PySem.W.kitx_float I.kIn True.intro e (fun z=>nomatch z) h
 | @lst a xs ea =>
  cases (show u=Value.ref a from rx);obtain⟨_,_,n,_,h1⟩:=(show cH X.prog X.w H s.heap a (.lst xs) from I.hok a _ ea);exact d9 qh I.kIn ⟨_,h1,rfl⟩ e (fun z=>nomatch z) h
 | @frz a ob xs ea =>
  cases (show u=Value.ref a from rx);obtain⟨_,_,_,n,_,h1⟩:=(show cH X.prog X.w H s.heap a (.frz ob (.lst xs)) from I.hok a _ ea);exact d9 qh I.kIn ⟨_,h1,rfl⟩ e (fun z=>nomatch z) h
 | @tup a xs ea =>
  cases (show u=Value.ref a from rx);obtain⟨_,_,_,p⟩:=(show cH X.prog X.w H s.heap a (.tup xs) from I.hok a _ ea);obtain⟨o,h1,h2,_⟩:=p;exact d9 PySem.W.kitx_tuple I.kIn ⟨o,h1,h2⟩ e (fun z=>nomatch z) h
 | @dK a kvs ea =>
  cases (show u=Value.ref a from rx);obtain⟨_,_,vs,_,p⟩:=(show cH X.prog X.w H s.heap a (.dK kvs) from I.hok a _ ea);obtain⟨o,es,ep,h1,h2,_⟩:=p;exact d9 qi I.kIn ⟨o,h1,h2.1⟩ e (fun z=>nomatch z) h
 | @dT a kvs ea =>
  cases (show u=Value.ref a from rx);obtain⟨_,_,xs,_,o,es,ep,h1,h2,_⟩:=(show cH X.prog X.w H s.heap a (.dT kvs) from I.hok a _ ea);exact d9 qi I.kIn ⟨o,h1,h2.1⟩ e (fun z=>nomatch z) h
 | @ins a C dx fs ea cl ha hn htk hm =>
  cases (show u=Value.ref a from rx);obtain⟨mA,O,_⟩:=yH I.hok ea;obtain⟨od,J,_⟩:=O.look;exact d9 (PySem.W.kitx_own (cl.get _) cl.hd ha hn htk hm) I.kIn J e (fun z=>nomatch z) h
end
structure gX (k:Nat)(A:Around):Prop where
 hd:A.handled=none
 dp:A.depth+3*k+5<recursionLimit
 un:A.units+16*k+200<cLine
theorem gX.mono {j k:Nat}{A:Around}(r:gX k A)(h:j<=k):gX j A:=⟨r.hd,by have:=r.dp;omega,by have:=r.un;omega⟩
theorem gX.deeper {k:Nat}{A:Around}(r:gX (k+1) A)(env:Env):gX k (A.deeper env) :=
 ⟨r.hd,by have:=r.dp;show A.depth+1+3*k+5<_;omega,by have:=r.un;show A.units+3+16*k+200<_;omega⟩
theorem Dg {A:Around}{C:Addr}{us:List Value}{kw:List (Str×Value)}:(A.under (.builtin "type.__call__" ⟨.ref C::us,kw⟩)).depth=A.depth+1:=by
 first | rfl | simp[Around.under,Code.weight,Code.isCreation,Code.isGuard,Code.isCaller,Code.frames,Code.isFrame,guardIds]
theorem Fd {A:Around}{C:Addr}{us:List Value}{kw:List (Str×Value)}:(A.under (.builtin "type.__call__" ⟨.ref C::us,kw⟩)).units=A.units+1:=by
 first | rfl | simp[Around.under,Code.cUnits,Code.frames,Code.isFrame]
theorem gX.make {k:Nat}{A:Around}(r:gX (k+1) A)(C:Addr)(us:List Value)(kw:List (Str×Value)):gX k (A.under (.builtin "type.__call__" ⟨.ref C::us,kw⟩)) :=
 ⟨r.hd,by have:=r.dp;rw[Dg];omega,by have:=r.un;rw[Fd];omega⟩
theorem gX.depth {k:Nat}{A:Around}(r:gX k A):A.depth<recursionLimit:=by have:=r.dp;omega
theorem gX.units {k:Nat}{A:Around}(r:gX k A):A.units+64<cLine:=by have:=r.un;omega
def Xl:TA:=fun _ H Q=>Q [] H
def Vg (ta:TE)(tr:TA):TA:=fun σ H Q=>ta σ H fun x H1=>tr σ H1 fun xs H2=>Q (x::xs) H2
section
variable {X:Cx}{e:Expr}{es:List Expr}{te:TE}{t:TA}{pos:Pos}
theorem aC:PA X [] Xl:=fun _ _ _ _ H Q I h=>Calls.spliced_nil ⟨[],H,I,.nil,h⟩
theorem aA (ha:PE X e te)(hr:PA X es t)(hs:starEach (e::es) X.env=(false,eval e X.env)::starEach es X.env:=by rfl):PA X (e::es) (Vg te t):=by
 intro pos pins s σ H Q I h;rw[hs];show wpAny _ _ (spliced ((false,eval e X.env)::backTo pos (starEach es X.env))) _ _ s;refine Calls.spliced_cons (thn (ha pins s σ H _ I h) fun u s1 ⟨x,H1,I1,r1,q1⟩=>?_);exact thn (hr pos pins s1 σ H1 _ I1 q1) fun us s2 ⟨xs,H2,I2,r2,q2⟩=>⟨x::xs,H2,I2,.cons r1 r2,q2⟩
def Wx (t:TA):TE:=fun σ H Q=>t σ H fun xs H1=>xs.length<=sizeLine∧∀ p,H1 p=none->Q (.ref p) (upd H1 p (.tup xs))
def Xv (t:TA):TE:=fun σ H Q=>t σ H fun xs H1=>xs.length<=sizeLine∧∀ p,H1 p=none->Q (.ref p) (upd H1 p (.lst xs))
theorem uN {x1}(h:PA X es t):PE X (.Tuple es x1 pos) (Wx t):=by
 intro pins s σ H Q I hq;refine wpAny_Tuple_spliced (thn (h pos pins s σ H _ I hq) fun us s1 ⟨xs,H1,I1,r,z,q⟩=>⟨by rw[<- r.length];exact z,?_⟩);have hf:H1 s1.heap.objs.size=none:=I1.hok.fresh (af _);refine⟨.ref s1.heap.objs.size,upd H1 s1.heap.objs.size (.tup xs),I1.laid (t':=s1.toks) (fun b u e=>Heap.get?_push_of_some _ e) (af _) ?_,rfl,q _ hf⟩;exact⟨z,us,r,⟨_,Heap.get?_push_size _ rfl,rfl,_,rfl⟩⟩
theorem eA (h:PA X es t):PE X (.List es pos) (Xv t):=by
 intro pins s σ H Q I hq;refine wpAny_List_spliced (thn (h pos pins s σ H _ I hq) fun us s1 ⟨xs,H1,I1,r,z,q⟩=>⟨by rw[<- r.length];exact z,?_⟩);have hf:H1 s1.heap.objs.size=none:=I1.hok.fresh (af _);refine⟨.ref s1.heap.objs.size,upd H1 s1.heap.objs.size (.lst xs),I1.laid (t':=s1.toks) (fun b u e=>Heap.get?_push_of_some _ e) (af _) ?_,rfl,q _ hf⟩;exact⟨z,us,0,r,Heap.get?_push_size _ rfl⟩
end
abbrev Sp:=List V->Hp->VK->XK->Prop
abbrev CXT:=List Env->Hp->Shared->XK->Value->Shared->Prop
structure Ed (P:Program)(w:World)(K:ae)(mg:Str->Option Value)(base:Heap)(A:Around)(outer:List Env)(s:Shared)(H:Hp):Prop where
 frames:A.frames=some outer
 mod:Mod K mg base
 bs:∀ b o,base.get? b=some o->s.heap.get? b=some o∧H b=none
 bsz:base.objs.size<=s.heap.objs.size
 funs:s.heap.FunFrames base outer
 frf:∀ b∈frs outer,H b=none
 hok:HOk P w H s.heap
 bare:AllBare s.gens
def CE (outer:List Env)(P:Program)(w:World)(H:Hp)(s:Shared)(Q:VK)(u:Value)(s':Shared):Prop :=
 ∃ v H',s'.os=s.os∧AllBare s'.gens∧Un (frs outer) [] H H' s.heap s'.heap∧HOk P w H' s'.heap∧bE v u∧Q v H'
def CR (CX:CXT)(outer:List Env)(P:Program)(w:World)(H:Hp)(s:Shared)(Q:VK)(E:XK)(r:Result)(s':Shared):Prop :=
 match r with
 | .ok (.ret u)=>CE outer P w H s Q u s'
 | .ok _=>False
 | .error e=>CX outer H s E e s'
structure bQ (P:Program)(w:World)(K:ae)(mg:Str->Option Value)(base:Heap)(CX:CXT)(k:Nat)(f:Addr)(fd:FuncData)(ps:List Str)(sp:Sp):Prop where
 len:∀ vs H Q E,sp vs H Q E->vs.length=ps.length
 run:∀ (A:Around) (outer:List Env) (s:Shared) (H:Hp) (args:Args) (us:List Value) (vs:List V) (Q:VK) (E:XK),gX k A->Ed P w K mg base A outer s H->BindsTo s fd args (ps.zip us)->bR vs us->sp vs H Q E ->
  codeAny (model P w) A (.call (.ref f) args) (CR CX outer P w H s Q E) s
theorem Ed.make {P:Program}{w:World}{K:ae}{mg:Str->Option Value}{base:Heap}{A:Around}{outer:List Env}{s:Shared}{H:Hp}(e:Ed P w K mg base A outer s H)(C:Addr)(us:List Value)(kw:List (Str×Value)) :
 Ed P w K mg base (A.under (.builtin "type.__call__" ⟨.ref C::us,kw⟩)) outer s H:=⟨by first | exact e.frames | (simpa [Around.under,Code.envs,Code.isFrame,pushEnvs] using e.frames),e.mod,e.bs,e.bsz,e.funs,e.frf,e.hok,e.bare⟩
section
variable {X:Cx}{pins:List (Addr×Obj)}{σ:St}{H:Hp}{s s':Shared}
theorem Inv.env0 (I:Inv X pins σ H s):Ed X.prog X.w X.K X.mg X.base X.A X.stack s H :=
 ⟨I.ok.frames,I.ok.mod,I.bs,a5 I.ok.bsz I.sz,I.stack,I.stkFree,I.hok,I.bare⟩
theorem Inv.after {Q:VK}{u:Value}(I:Inv X pins σ H s)(h:CE X.stack X.prog X.w H s Q u s'):EP X pins σ Q u s':=by
 obtain⟨v,H',os,bare,un,hok,r,q⟩:=h;obtain⟨hh,g,d,t,os'⟩:=s';obtain rfl:os'=s.os:=os;exact⟨v,H',I.call (h':=hh) (g':=g) (d':=d) (t':=t) (ch:=[]) un hok bare (fun b z=>absurd z (by simp)),r,q⟩
end
def Rp (sp:Sp)(dvs:List V)(E:XK)(t:TA):TE:=fun σ H Q=>t σ H fun vs H1=>sp (vs++dvs) H1 Q E
def Rg (C:Addr)(sp:Sp)(dvs:List V)(E:XK)(t:TA):TE:=fun σ H Q=>t σ H fun vs H1=>∀ x dx,H1 x=none->H1 dx=none->dx≠x ->
 sp (.ref x::(vs++dvs)) (upd (upd H1 dx (.own x)) x (.ins C dx [])) (fun v H2=>v = .non∧Q (.ref x) H2) E
def nU (K:ae)(fd:FuncData)(ps:List Str)(ds:List Value):Prop :=
 ∀ (s:Shared) (us:List Value),K.In s.heap->(us++ds).length=ps.length->BindsTo s fd ⟨us,[]⟩ (ps.zip (us++ds))
theorem nU.all {K:ae}{fd:FuncData}{ps:List Str}(h:∀ us:List Value,us.length=ps.length->bindArgs fd ⟨us,[]⟩=pure (ps.zip us)):nU K fd ps []:=fun s us _ hl=>by
 rw[dv] at hl ⊢;exact .of_eq (h us hl)
def kX (CX:CXT)(X:Cx)(E:XK):Prop:=∀ (pins:List (Addr×Obj)) (σ:St) (H:Hp) (s:Shared) (e:Value) (s':Shared),Inv X pins σ H s->CX X.stack H s E e s'->X.xe e s'
section
variable {X:Cx}{CX:CXT}{k:Nat}{f C:Addr}{fd:FuncData}{ps:List Str}{sp:Sp}{dvs:List V}{ds:List Value}{E:XK}{x m:Str}{p pos apos:Pos}{e o:Expr}{es:List Expr}{ta:TE}{t:TA}
theorem To {pins:List (Addr×Obj)}{σ:St}{H:Hp}{s:Shared}{Q:VK}{us:List Value}{vs:List V}(F:bQ X.prog X.w X.K X.mg X.base CX k f fd ps sp)(hr:gX k X.A)(hb:nU X.K fd ps ds)(hd:bR dvs ds)(hx:kX CX X E)
  (I:Inv X pins σ H s) (r:bR vs us) (h:sp (vs++dvs) H Q E):wpAny (model X.prog X.w) X.A (call (.ref f) us) (EP X pins σ Q) X.xe s:=by
 have r2:bR (vs++dvs) (us++ds):=r.append hd;have hl:(us++ds).length=ps.length:=by rw[<- r2.length];exact F.len _ _ _ _ h
 refine wpAny_call (codeAny_mono (F.run X.A X.stack s H ⟨us,[]⟩ (us++ds) (vs++dvs) Q E hr I.env0 (hb s us I.kIn hl) r2 h) fun r s' hq=>?_)
 cases r with
 | error e=>exact hx pins σ H s e s' I hq
 | ok fl =>
  cases fl with
  | ret u=>exact I.after hq
  | next=>exact False.elim hq
  | brk=>exact False.elim hq
  | cont=>exact False.elim hq
theorem Pg (F:bQ X.prog X.w X.K X.mg X.base CX k f fd ps sp)(hr:gX k X.A)(hg:Gl X x)(hm:X.mg x=some (.ref f))(hk:av X.K (.ref f)=true)(hb:nU X.K fd ps ds)(hd:bR dvs ds)(hx:kX CX X E)
  (ha:PA X (e::es) t) (hdb:(x==("__debug__" : Str))=false:=by decide) (he:starEach (e::es) X.env=(false,eval e X.env)::starEach es X.env:=by rfl) (hpl:(backTo pos (starEach es X.env)).any (·.1)=false:=by rfl) :
  PE X (.Call (.Name x p) (e::es) [] pos) (Rp sp dvs E t):=by
 intro pins s σ H Q I h;refine wpAny_Call_Name_kw (rE I hg hm ?_ hdb);refine pw (h₀:=X.base) I.ok.mod.kin hk (thn (ha pos pins s σ H _ I h) fun us s1 ⟨vs,H1,I1,r,q⟩=>⟨I1.kIn,?_⟩) he hpl;exact To F hr hb hd hx I1 r q
structure Mk (K:ae)(C f:Addr):Prop where
 makes:n6 K C=true
 init:dz K (.ref C) "__init__" = some (some (.ref f))
 fn:tz K (.ref f)=true
 kp:av K (.ref C)=true
theorem Mf {pins:List (Addr×Obj)}{σ:St}{H:Hp}{s:Shared}{Q:VK}{us:List Value}{vs:List V}(M:Mk X.K C f)(F:bQ X.prog X.w X.K X.mg X.base CX k f fd ps sp)(hr:gX (k+1) X.A)(hb:nU X.K fd ps ds)(hd:bR dvs ds)
  (hx:kX CX X E) (I:Inv X pins σ H s) (r:bR vs us)
  (h:∀ x dx,H x=none->H dx=none->dx≠x->sp (.ref x::(vs++dvs)) (upd (upd H dx (.own x)) x (.ins C dx [])) (fun v H2=>v = .non∧Q (.ref x) H2) E) :
  wpAny (model X.prog X.w) X.A (call (.ref C) us) (EP X pins σ Q) X.xe s:=by
 have hq:=h (s.heap.objs.size+1) s.heap.objs.size (I.hok.fresh (fm _)) (I.hok.fresh (af _)) (a7 (fc _));have I2:=Inv.made (C:=C) I;have r2:bR (V.ref (s.heap.objs.size+1)::(vs++dvs)) (Value.ref (s.heap.objs.size+1)::(us++ds)):=.cons rfl (r.append hd);have hl:(Value.ref (s.heap.objs.size+1)::us++ds).length=ps.length:=by
  have e:=r2.length;rw[F.len _ _ _ _ hq] at e;exact e.symm
 refine wpAny_call (Mn (f:=f) I.kIn M.makes M.init (beq_iff_eq.mp M.fn) (codeAny_mono (F.run _ X.stack _ _ ⟨Value.ref (s.heap.objs.size+1)::us,[]⟩ (Value.ref (s.heap.objs.size+1)::(us++ds)) _ _ E (hr.make C us [])
  (I2.env0.make C us []) (hb _ (Value.ref (s.heap.objs.size+1)::us) I2.kIn hl) r2 hq) fun r s' hq'=>?_))
 cases r with
 | error e=>exact hx pins σ _ _ e s' I2 hq'
 | ok fl =>
  cases fl with
  | ret u =>
   obtain⟨v,H',I3,rv,ev,q3⟩:=I2.after hq';subst ev;exact⟨rv,⟨V.ref (s.heap.objs.size+1),H',I3,rfl,q3⟩⟩
  | next=>exact False.elim hq'
  | brk=>exact False.elim hq'
  | cont=>exact False.elim hq'
theorem Qt (M:Mk X.K C f)(F:bQ X.prog X.w X.K X.mg X.base CX k f fd ps sp)(hr:gX (k+1) X.A)(hg:Gl X x)(hm:X.mg x=some (.ref C))(hb:nU X.K fd ps ds)(hd:bR dvs ds)(hx:kX CX X E)
  (ha:PA X (e::es) t) (hdb:(x==("__debug__" : Str))=false:=by decide) (he:starEach (e::es) X.env=(false,eval e X.env)::starEach es X.env:=by rfl) (hpl:(backTo pos (starEach es X.env)).any (·.1)=false:=by rfl) :
  PE X (.Call (.Name x p) (e::es) [] pos) (Rg C sp dvs E t):=by
 intro pins s σ H Q I h;refine wpAny_Call_Name_kw (rE I hg hm ?_ hdb);refine pw (h₀:=X.base) I.ok.mod.kin M.kp (thn (ha pos pins s σ H _ I h) fun us s1 ⟨vs,H1,I1,r,q⟩=>⟨I1.kIn,?_⟩) he hpl;exact Mf M F hr hb hd hx I1 r q
end
section
variable {X:Cx}{CX:CXT}{k:Nat}{f C:Addr}{fd:FuncData}{ps ks:List Str}{sp:Sp}{E:XK}{x m:Str}{p pos apos kpos:Pos}{e o:Expr}{es:List Expr}{kws:List Keyword}{te ta:TE}{t tk:TA}{nm:Option Str}
variable {g:List Value->List Value->List Value}{gV:List V->List V->List V}
end
structure aS (N P:List Str)(sc:Scope):Prop where
 kind:sc.kind = .function
 co:sc.isCoroutine=false
 gen:sc.isGenerator=false
 nd:N.Nodup
 pre:N.take P.length=P
 par:∀ x∈P,sc.names.lookup x=some .local∨sc.names.lookup x=some .cell
 nofree:∀ y∈sc.names,y.2≠.free
theorem wH {kindOf:Str->Option NameKind}{x:Str}:∀ {binds:List (Str×Value)} {m:Str->Option Value},(∀ v,(x,v)∉binds)->bindL kindOf binds m x=m x
 | [],_,_=>rfl
 | (n,v)::r,m,h=>by
  unfold bindL;rw[wH fun w hw=>h w (ah _ hw)];split
  ·have:x≠n:=by rintro rfl;exact h v ar
   simp[this]
  ·rfl
theorem wO {kindOf:Str->Option NameKind}{x:Str}:∀ {binds:List (Str×Value)} {m:Str->Option Value},(∀ v,(x,v)∉binds)->bindC kindOf binds m x=m x
 | [],_,_=>rfl
 | (n,v)::r,m,h=>by
  unfold bindC;rw[wO fun w hw=>h w (ah _ hw)];split
  ·rfl
  ·have:x≠n:=by rintro rfl;exact h v ar
   simp[this]
theorem wD {kindOf:Str->Option NameKind}{x:Str}{v:Value}:∀ {P:List Str} {vs:List Value} {i:Nat} {m:Str->Option Value},P.Nodup->P[i]?=some x->vs[i]?=some v->kindOf x=some .local ->
  bindL kindOf (P.zip vs) m x=some v
 | [],_,_,_,_,h,_,_=>by simp at h
 | _::_,[],_,_,_,_,h,_=>by simp at h
 | p::P,w::vs,0,m,nd,h1,h2,hk=>by
  simp at h1 h2;subst h1;subst h2;show bindL kindOf ((p,w)::P.zip vs) m p=_;unfold bindL;rw[wH fun v hv=>(ck.mp nd).1 (n8 hv).1,if_pos hk];simp
 | p::P,w::vs,i+1,m,nd,h1,h2,hk=>by
  show bindL kindOf ((p,w)::P.zip vs) m x=_;unfold bindL;exact wD (i:=i) (ck.mp nd).2 (by simpa using h1) (by simpa using h2) hk
theorem wV {kindOf:Str->Option NameKind}{x:Str}{v:Value}:∀ {P:List Str} {vs:List Value} {i:Nat} {m:Str->Option Value},P.Nodup->P[i]?=some x->vs[i]?=some v->kindOf x≠some .local ->
  bindC kindOf (P.zip vs) m x=some v
 | [],_,_,_,_,h,_,_=>by simp at h
 | _::_,[],_,_,_,_,h,_=>by simp at h
 | p::P,w::vs,0,m,nd,h1,h2,hk=>by
  simp at h1 h2;subst h1;subst h2;show bindC kindOf ((p,w)::P.zip vs) m p=_;unfold bindC;rw[wO fun v hv=>(ck.mp nd).1 (n8 hv).1,if_neg hk];simp
 | p::P,w::vs,i+1,m,nd,h1,h2,hk=>by
  show bindC kindOf ((p,w)::P.zip vs) m x=_;unfold bindC;exact wV (i:=i) (ck.mp nd).2 (by simpa using h1) (by simpa using h2) hk
def nN (N:List Str)(vs:List V):St:=vs.map some++kf (N.length-vs.length) none
def qT (CX:CXT)(P:Program)(w:World)(K:ae)(mg:Str->Option Value)(base:Heap)(N:List Str)(qual:Str)(scope:Scope)(f:Addr)(cd:Value)(A:Around)(outer:List Env)(s:Shared)(H:Hp)(E:XK):Cx where
 prog:=P
 w:=w
 K:=K
 mg:=mg
 base:=base
 A:=A.deeper (envOfC qual scope s.heap.objs.size f cd)
 N:=N
 s₀:=s
 H₀:=H
 env:=envOfC qual scope s.heap.objs.size f cd
 outer:=outer
 stack:=envOfC qual scope s.heap.objs.size f cd::outer
 ex:=[]
 calm:=true
 fn:=fun _=>true
 pn:=[]
 xe:=fun e s'=>wpAny (model P w) (A.deeper (envOfC qual scope s.heap.objs.size f cd)) (leaving (envOfC qual scope s.heap.objs.size f cd) e) (fun _ s''=>CX outer H s E e s'') (fun e' s''=>CX outer H s E e' s'') s'
theorem Ch {sc:Scope}{n:Nat}{x:Str}(h:sc.names.lookup x=some .cell):∃ c,(cellsFrom n sc.names []).lookup x=some c:=by
 have q:=nj sc.names n [] (.inl h);exact Option.isSome_iff_exists.mp q
theorem Ka {CX:CXT}{P:Program}{w:World}{K:ae}{mg:Str->Option Value}{base:Heap}{N ps:List Str}{qual:Str}{scope:Scope}{f:Addr}{cd:Value}{A:Around}{outer:List Env}{s s1:Shared}{H:Hp}{E:XK}{us:List Value}{vs:List V}
  (S:aS N ps scope) (hd:A.handled=none) (e0:Ed P w K mg base A outer s H) (hl:vs.length=ps.length) (r:bR vs us)
  (x:InCallC s s.heap.objs.size (bindL (envOfC qual scope s.heap.objs.size f cd).kindOf (ps.zip us) fun _=>none) (cellsFrom (s.heap.objs.size+1) scope.names []) (bindC (envOfC qual scope s.heap.objs.size f cd).kindOf (ps.zip us) fun _=>none) s1) :
  Inv (qT CX P w K mg base N qual scope f cd A outer s H E) [] (nN N vs) H s1:=by
 have hpl:ps.length<=N.length:=by have:=congrArg fo S.pre;rw[cb] at this;omega
 obtain⟨h1,tk,rfl,hk⟩:=x.done;have noA:∀ b:Addr,b∉(qT CX P w K mg base N qual scope f cd A outer s H E).ex:=fun b z=>absurd (show b∈([]:List Addr) from z) (by simp)
 refine⟨⟨e0.mod,S.kind,rfl,rfl,af _,fun y z c h1 h2=>?_,fun y hy=>?_,fun y c _ h=>?_,fun _=>hd,Around.frames_deeper e0.frames,.inr ⟨rfl,rfl⟩,fun b z=>absurd z (noA b),e0.bs,e0.bsz,fun b _ _=>noA b,fun b z=>absurd z (noA b),e0.funs,e0.frf⟩,
  rfl,e0.bare,Un.kept hk,⟨_,x.toInCall.ns,fun i y v h1 h2 h3=>?_⟩,fun y c h=>⟨_,x.cell y c h⟩,e0.hok.fresh (af _),fun y c h=>?_,fun p hp=>absurd (show p∈([]:List (Addr×Obj)) from hp) (by simp),e0.hok.kept hk,?_⟩
 ·exact name_of_addr x.apart (gl h1) (gl h2)
 ·have hy:scope.names.lookup y=some .cell∨scope.names.lookup y=some .free:=hy
  rcases hy with hy | hy
  ·exact Ch hy
  ·exact absurd rfl (S.nofree _ (gl hy))
 ·exact jl (x.above y c (gl h))
 ·have hi:i<vs.length:=by
   unfold nN at h2;by_cases hi:i<vs.length
   ·exact hi
   ·rw[fi (by simpa using hi)] at h2
    rw[List.getElem?_replicate] at h2;split at h2 <;> cases h2
  have ha:vs[i]?=some v:=by
   unfold nN at h2;rw[fq (by simpa using hi),al] at h2
   cases e:vs[i]? with
   | none=>rw[e] at h2;cases h2
   | some a=>rw[e] at h2;cases h2;rfl
  obtain⟨u,hu,rv⟩:=r.get ha;have hp:ps[i]?=some y:=by
   rw[<- S.pre,js (by omega)];exact h1
  have ndP:ps.Nodup:=by rw[<- S.pre];exact S.nd.sublist (i9 _ _)
  refine⟨u,rv,?_⟩;rcases S.par y (ay hp) with k | k
  ·exact .inl ⟨k,wD ndP hp hu k⟩
  ·obtain⟨c,e⟩:=Ch (n:=s.heap.objs.size+1) k
   refine .inr ⟨.inl k,c,e,?_⟩;have q:=x.cell y c e;rw[wV ndP hp hu (by show scope.names.lookup y≠_;rw[k];decide)] at q;exact q
 ·exact e0.hok.fresh (jl (x.above y c (gl h)))
 ·unfold nN
  show _=N.length;rw[aq,aR,ol];omega
theorem Ru {CX:CXT}{P:Program}{w:World}{K:ae}{mg:Str->Option Value}{base:Heap}{k:Nat}{f:Addr}{name qual:Str}{params:Arguments}{body:List Stmt}{scope:Scope}{dV kV doc pm cdv ct oc:Value}{an od:Option Addr}
  {osl:Array (Option Value)} {N ps:List Str} {sp:Sp} (lk:K.lookup f=some ⟨oc,od,.func (a0 name qual params body scope dV kV doc pm an cdv ct),osl⟩) (hcd:ax K cdv qual=true) (S:aS N ps scope)
  (len:∀ vs H Q E,sp vs H Q E->vs.length=ps.length)
  (hbody:∀ (A:Around) (outer:List Env) (s:Shared) (H:Hp) (vs:List V) (Q:VK) (E:XK),gX k (A.deeper (envOfC qual scope s.heap.objs.size f cdv))->sp vs H Q E ->
   ∃ t,PSs (qT CX P w K mg base N qual scope f cdv A outer s H E) body t∧t { nx:=fun _ H'=>Q .non H',rt:=Q } (nN N vs) H) :
  bQ P w K mg base CX (k+1) f (a0 name qual params body scope dV kV doc pm an cdv ct) ps sp:=by
 refine⟨len,fun A outer s H args us vs Q E hr e0 hb r hsp=>?_⟩;have hl:=len _ _ _ _ hsp;have KX:K.In s.heap:=e0.mod.kin.keeps fun b o e=>(e0.bs b o e).1
 have lim:s.heap.NoLimit:=e0.mod.nolimit.keeps fun b o e=>(e0.bs b o e).1
 have hkind:∀ y∈ps.zip us,scope.names.lookup y.1=some .local∨(scope.names.lookup y.1=some .cell∧((cellsFrom (s.heap.objs.size+1) scope.names []).lookup y.1).isSome=true):=fun ⟨n,v⟩ hy=>by
  rcases S.par n (n8 hy).1 with q | q
  ·exact .inl q
  ·exact .inr ⟨q,nj _ _ _ (.inl q)⟩
 refine codeAny_call_function hr.depth (KX _ _ lk) rfl S.co S.gen rfl (PySem.W.codeRec_of KX hcd) (hb _ _ _ _ ?_);refine wpAny_newFunctionEnv_cells S.kind hkind fun env he s1 x=>?_
 subst he;refine⟨lim.keeps x.toInCall.keep,codeAny_func ?_⟩;obtain⟨t,ht,hq⟩:=hbody A outer s H vs Q E (hr.deeper _) hsp;have I:Inv (qT CX P w K mg base N qual scope f cdv A outer s H E) [] (nN N vs) H s1:=Ka S hr.hd e0 hl r x;refine wpAny_mono (ht [] s1 (nN N vs) H _ I hq) (fun fl s' hs=>?_) fun e s' hs=>hs
 have fin:∀ {σ':St} {H':Hp} {v:V} {u:Value},Inv (qT CX P w K mg base N qual scope f cdv A outer s H E) [] σ' H' s'->bE v u->Q v H'->CE outer P w H s Q u s' :=
  fun {σ' H' v u} J rv q=>⟨v,H',J.os,J.bare,J.base,J.hok,rv,q⟩
 cases fl with
 | ret u =>
  obtain⟨v,σ',H',J,rv,q⟩:=hs;exact fin J rv q
 | next =>
  obtain⟨σ',H',J,q⟩:=hs;exact fin (v:=V.non) (u:=Value.none) J rfl q
 | brk =>
  obtain⟨_,_,_,q⟩:=hs;exact False.elim q
 | cont =>
  obtain⟨_,_,_,q⟩:=hs;exact False.elim q
section
variable {X:Cx}{x:Str}{p pos:Pos}{e:Expr}{es:List Expr}{t:TA}{id T:String}{r:List V->Hp->VK->Prop}
def tCB (r:List V->Hp->VK->Prop)(t:TA):TE:=fun σ H Q=>t σ H fun vs H1=>r vs H1 Q
theorem aN (hc:eP X (.builtin id) r)(hg:Gl X x)(hm:X.mg x=none)(hv:bootBuiltins x=some (.builtin id))(ha:PA X (e::es) t)(hn:x ≠ "__name__" := by decide)(hdb:(x==("__debug__" : Str))=false:=by decide)
  (he:starEach (e::es) X.env=(false,eval e X.env)::starEach es X.env:=by rfl) (hpl:(backTo pos (starEach es X.env)).any (·.1)=false:=by rfl):PE X (.Call (.Name x p) (e::es) [] pos) (tCB r t):=by
 intro pins s σ H Q I h;refine wpAny_Call_Name_kw (mF I hg hm hv ?_ hn hdb);exact PyProof.Rows.callWith_builtin1 (thn (ha pos pins s σ H _ I h) fun us s1 ⟨vs,H1,I1,r1,q1⟩=>hc pins s1 σ H1 vs us Q I1 r1 q1) he hpl
theorem cW (hc:eP X (.type T) r)(hg:Gl X x)(hm:X.mg x=none)(hv:bootBuiltins x=some (.type T))(ha:PA X (e::es) t)(hn:x ≠ "__name__" := by decide)(hdb:(x==("__debug__" : Str))=false:=by decide)
  (he:starEach (e::es) X.env=(false,eval e X.env)::starEach es X.env:=by rfl) (hpl:(backTo pos (starEach es X.env)).any (·.1)=false:=by rfl):PE X (.Call (.Name x p) (e::es) [] pos) (tCB r t):=by
 intro pins s σ H Q I h;refine wpAny_Call_Name_kw (mF I hg hm hv ?_ hn hdb);exact fg (thn (ha pos pins s σ H _ I h) fun us s1 ⟨vs,H1,I1,r1,q1⟩=>hc pins s1 σ H1 vs us Q I1 r1 q1) he hpl
end
end L2
namespace HT
open PySem PyProof.Rows
section
open PySem.SeqAt
open PySem.AutoSeq1 (wpAny_loadPart')
open PySem.MeetsSeq PySem.MeetsSeq2 PySem.MeetsSeq3
end
section
variable {prog:Program}{w:World}{A:Around}{E:Value->Shared->Prop}{s:Shared}
def sIx (n d:Nat):Option Int->Nat
 | none=>d
 | some v=>if v<0 then (v+(n:Int)).toNat else min v.toNat n
theorem fX (n d:Nat):sIx n d none=d:=rfl
theorem eG (n d k:Nat):sIx n d (some (k:Int))=min k n:=by
 show (if (k:Int)<0 then ((k:Int)+(n:Int)).toNat else min (k:Int).toNat n)=min k n;rw[if_neg (by omega),c8]
theorem rS (n d:Nat)(hd:d<=n)(o:Option Int):sIx n d o<=n:=by
 cases o with
 | none=>exact hd
 | some v =>
  show (if v<0 then (v+(n:Int)).toNat else min v.toNat n)<=n;by_cases hv:v<0
  ·rw[if_pos hv];omega
  ·rw[if_neg hv];exact qy _ _
theorem Fz (v:Int)(n d:Nat):(if v<0 then max (v+(n:Int)) 0 else min v (n:Int))=((sIx n d (some v):Nat):Int):=by
 show (if v<0 then max (v+(n:Int)) 0 else min v (n:Int))=(((if v<0 then (v+(n:Int)).toNat else min v.toNat n):Nat):Int);by_cases hv:v<0
 ·simp only [if_pos hv];omega
 ·simp only [if_neg hv];omega
theorem Cy (lo hi:Option Int)(n:Nat):Builtin.Slice.sliceAdjust lo hi 1 (n:Int)=(((sIx n 0 lo:Nat):Int),((sIx n n hi:Nat):Int)):=by
 have h1:¬ ((1:Int)<0):=by omega
 unfold Builtin.Slice.sliceAdjust;simp only [h1,if_false];refine Prod.ext ?_ ?_
 ·cases lo with
  | none=>rfl
  | some v=>exact Fz v n 0
 ·cases hi with
  | none=>rfl
  | some v=>exact Fz v n n
theorem Fl (i j:Nat):Builtin.Slice.slicePlaces (i:Int) (j:Int) 1=j-i:=by
 unfold Builtin.Slice.slicePlaces;have h1:(1:Int)>0:=by omega
 simp only [h1,if_true,Int.ediv_one];split <;> omega
theorem tX {v:Value}{o:Option Int}{Q:Option Int->Shared->Prop}(p:IsPart v o)(h:Q o s):wpAny (model prog w) A (Builtin.Slice.slicePartIndex v) Q E s:=by
 cases p with
 | none=>exact slicePart_none h
 | int i t=>exact slicePart_int h
theorem oJ {sl:Addr}{vl vu:Value}{lo hi:Option Int}{n:Nat}{Q:Int×Int×Nat->Shared->Prop}(hs:s.heap.IsSliceOf sl vl vu .none)(pl:IsPart vl lo)(pu:IsPart vu hi)
  (h:Q (((sIx n 0 lo:Nat):Int),1,sIx n n hi-sIx n 0 lo) s):wpAny (model prog w) A (Builtin.Slice.sliceApplied (.ref sl) (pure (n:Int))) Q E s:=by
 obtain⟨os,hos,hcs,hds⟩:=id hs;unfold Builtin.Slice.sliceApplied Builtin.Slice.sliceFields;refine wpAny_bind (wpAny_bind (wpAny_field hos hds (x:=vl) rfl (wpAny_bind (wpAny_field hos hds (x:=vu) rfl (wpAny_bind (wpAny_field hos hds (x:=.none) rfl (wpAny_pure ?_)))))));refine wpAny_bind (slicePart_none ?_);show wpAny _ _ (if ((1:Int)==0)=true then _ else _) _ _ s;rw[if_neg (by decide)];refine wpAny_bind (tX pl (wpAny_bind (tX pu (wpAny_bind (wpAny_pure ?_)))));show wpAny _ _ (match Builtin.Slice.sliceAdjust lo hi 1 (n:Int) with | (lo,hi)=>pure (lo,(1:Int),Builtin.Slice.slicePlaces lo hi 1)) _ _ s;rw[Cy lo hi n];show wpAny _ _ (pure (((sIx n 0 lo:Nat):Int),(1:Int),Builtin.Slice.slicePlaces ((sIx n 0 lo:Nat):Int) ((sIx n n hi:Nat):Int) 1)) _ _ s;rw[Fl];exact wpAny_pure h
theorem Oh (xs:Array Value)(i k:Nat):((cf k).filterMap fun (m:Nat)=>xs[((i:Int)+(m:Int)*1).toNat]?).toArray=((xs.toList.drop i).take k).toArray:=by
 have e:(fun (m:Nat)=>xs[((i:Int)+(m:Int)*1).toNat]?)=fun m=>xs[i+m]?:=by
  funext m
  have:((i:Int)+(m:Int)*1).toNat=i+m:=by omega
  rw[this]
 rw[e]
 have:=pick_run xs i k
 rw[List.filterMap_map] at this;have e2:((fun x=>xs[x]?)∘fun x=>i+x)=fun m=>xs[i+m]?:=rfl
 rw[e2] at this;rw[this]
theorem nO {t sl:Addr}{items:Array Value}{vl vu:Value}{lo hi:Option Int}{Q:Value->Shared->Prop}(ht:IsTup s.heap t items)(hs:s.heap.IsSliceOf sl vl vu .none)(pl:IsPart vl lo)(pu:IsPart vu hi)
  (hw:¬ (sIx items.size 0 lo=0∧sIx items.size items.size hi=items.size))
  (h:Q (.ref s.heap.objs.size) { s with heap:=s.heap.push { cls:=.type "tuple",data:=.seq ((items.toList.drop (sIx items.size 0 lo)).take (sIx items.size items.size hi-sIx items.size 0 lo)).toArray } })
  (hsz:items.size<=sizeLine):wpAny (model prog w) A (getItem (.ref t) (.ref sl)) Q E s:=by
 have htake:sizeOk (.seq ((items.toList.drop (sIx items.size 0 lo)).take (sIx items.size items.size hi-sIx items.size 0 lo)).toArray):=by
  show ((items.toList.drop (sIx items.size 0 lo)).take (sIx items.size items.size hi-sIx items.size 0 lo)).toArray.size<=sizeLine;rw[a8,cb,b9,bb];omega
 have hj:sIx items.size items.size hi<=items.size:=rS _ _ (af _) hi;obtain⟨os,hos,hcs,hds⟩:=id hs;have hTs:s.TypeIs (.ref sl) "slice" := ⟨os,hos,hcs⟩
 unfold getItem
 try with_reducible refine wpAny_holding ?_
 first | refine wpAny_bind (wpAny_pure ?_) | skip
 refine wpAny_bind (wpAny_sequenceKey ht.typeIs (by decide) ?_);refine wpAny_bind (wpAny_callSpecial?_slot (name:=Str.ofString "__getitem__") ht.typeIs ic
  (wpAny_call_entry ic ht.typeIs entry_tuple_getitem ?_ (args_tuple_getitem _ _)))
 show wpAny _ _ (Builtin.Tuple.tupleItemsOf (.ref t) >>= _) _ _ s;refine wpAny_bind (tupleItemsOf_ ht ?_);refine wpAny_bind (wpAny_typeOf hTs ?_);rw[if_pos (by decide)];refine wpAny_bind (oJ hs pl pu ?_);have hno:¬ ((((sIx items.size 0 lo:Nat):Int)==0&&(1:Int)==1&&(sIx items.size items.size hi-sIx items.size 0 lo)==items.size)=true):=by
  intro q;rw[cr,cr] at q;have q1:((sIx items.size 0 lo:Nat):Int)=0:=eq_of_beq q.1.1;have q2:sIx items.size items.size hi-sIx items.size 0 lo=items.size:=eq_of_beq q.2;exact hw ⟨by omega,by omega⟩
 show wpAny _ _ (if (((sIx items.size 0 lo:Nat):Int)==0&&(1:Int)==1&&(sIx items.size items.size hi-sIx items.size 0 lo)==items.size)=true then _ else _) _ _ s;rw[if_neg hno,Oh]
 first
  | exact wpAny_bind (m:=Builtin.Tuple.tupleExact _) (wpAny_newObj_type (wpAny_pure ⟨_,rfl,wpAny_pure h⟩) htake)
  | exact wpAny_bind (m:=Builtin.Tuple.tupleExact _) (wpAny_newObj_type (wpAny_bind (wpAny_pure (wpAny_pure ⟨_,rfl,wpAny_pure h⟩))) htake)
  | exact wpAny_bind (wpAny_bind (m:=Builtin.Tuple.tupleExact _) (wpAny_newObj_type (wpAny_pure (wpAny_pure ⟨_,rfl,wpAny_pure h⟩)) htake))
  | exact wpAny_bind (wpAny_bind (m:=Builtin.Tuple.tupleExact _) (wpAny_newObj_type (wpAny_pure ⟨_,rfl,wpAny_pure h⟩) htake))
end
end HT
namespace L2
open PySem PySem.Spec PyProof.Rows
abbrev TO:=St->Hp->(Option Int->Hp->Prop)->Prop
def PO (X:Cx)(e:Option Expr)(t:TO):Prop :=
 ∀ (pins:List (Addr×Obj)) (s:Shared) (σ:St) (H:Hp) (Q:Option Int->Hp->Prop),Inv X pins σ H s->t σ H Q ->
  wpAny (model X.prog X.w) X.A (evalPart e X.env) (fun u s'=>∃ o H',Inv X pins σ H' s'∧IsPart u o∧Q o H') X.xe s
def Qn:TO:=fun _ H Q=>Q none H
def Ux (t:TE):TO:=fun σ H Q=>t σ H fun x H1=>∃ i,x = .int i∧Q (some i) H1
theorem Ey {ns:List Int}:∀ {us:List Value},bR (ns.map V.int) us->IntsAre us ns:=by
 induction ns with
 | nil=>intro us r;rw[g7] at r;cases r;exact .nil
 | cons n ns ih =>
  intro us r;rw[am] at r
  cases r with
  | cons r1 r2 =>
   obtain⟨t,e⟩:=r1;subst e;exact .cons n t (ih r2)
section
variable {X:Cx}{e:Expr}{te:TE}{lo hi:Option Expr}{tl th:TO}{pos p2:Pos}
theorem cP:PO X none Qn:=by
 intro pins s σ H Q I h;rw[evalPart_none];exact wpAny_pure ⟨none,H,I,.none,h⟩
theorem bK (h:PE X e te):PO X (some e) (Ux te):=by
 intro pins s σ H Q I hw;rw[evalPart_some];refine thn (h pins s σ H _ I hw) fun u s1 ⟨x,H1,I1,r1,q1⟩=>?_
 obtain⟨i,rfl,q⟩:=q1;obtain⟨t,rfl⟩:=r1;exact⟨some i,H1,I1,.int i t,q⟩
def SlR (X:Cx)(r:V->Option Int->Option Int->Hp->VK->Prop):Prop :=
 ∀ (pins:List (Addr×Obj)) (s:Shared) (σ:St) (H:Hp) (x:V) (v vl vu:Value) (lo hi:Option Int) (sl:Addr) (Q:VK),Inv X pins σ H s->bE x v->s.heap.IsSliceOf sl vl vu .none->IsPart vl lo->IsPart vu hi->r x lo hi H Q ->
  ∃ T id,typeLookup (.type T) "__getitem__" = pure (some (.builtin id))∧s.TypeIs v T∧wpAny (model X.prog X.w) X.A (getItem v (.ref sl)) (EP X pins σ Q) X.xe s
def tSl (r:V->Option Int->Option Int->Hp->VK->Prop)(te:TE)(tl th:TO):TE:=fun σ H Q=>te σ H fun x H1=>tl σ H1 fun l H2=>th σ H2 fun u H3=>r x l u H3 Q
theorem bL {r:V->Option Int->Option Int->Hp->VK->Prop}(hr:SlR X r)(he:PE X e te)(hl:PO X lo tl)(hu:PO X hi th):PE X (.Subscript e (.Slice lo hi none p2) pos) (tSl r te tl th):=by
 intro pins s σ H Q I h;refine Subscript_ (thn (he pins s σ H _ I h) fun v s1 ⟨x,H1,I1,r1,q1⟩=>?_);refine wpAny_Slice (thn (hl pins s1 σ H1 _ I1 q1) fun vl s2 ⟨l,H2,I2,pl,q2⟩=>thn (hu pins s2 σ H2 _ I2 q2) fun vu s3 ⟨u,H3,I3,pu,q3⟩=>?_);rw[evalPart_none];refine wpAny_pure ?_;have I4:Inv X pins σ H3 { s3 with heap:=s3.heap.push { cls:=.type "slice",data:=.fields #[vl,vu,.none] } }:=I3.kept (t':=s3.toks) fun b ob q=>Heap.get?_push_of_some _ q
 obtain⟨T,id,hT,ht,hg⟩:=hr pins { s3 with heap:=s3.heap.push { cls:=.type "slice",data:=.fields #[vl,vu,.none] } } σ H3 x v vl vu l u s3.heap.objs.size Q I4 r1 (Heap.IsSliceOf.new ..) pl pu q3
 show wpAny (model X.prog X.w) X.A (subscriptTail e (.Slice lo hi none p2) v (.ref s3.heap.objs.size)) (EP X pins σ Q) X.xe { s3 with heap:=s3.heap.push { cls:=.type "slice",data:=.fields #[vl,vu,.none] } }
 exact tail_any (ops:=[.ref s3.heap.objs.size,v]) ht hT hg (by with_unfolding_all rfl)
def fK (xs:List V)(lo hi:Option Int):List V:=(xs.drop (HT.sIx xs.length 0 lo)).take (HT.sIx xs.length xs.length hi-HT.sIx xs.length 0 lo)
theorem pT (xs:List V)(lo hi:Option Int):(fK xs lo hi).length<=xs.length:=by
 unfold fK;rw[cb,b9];omega
def Xn (K:ae):V->Option Int->Option Int->Hp->VK->Prop:=fun x lo hi H Q=>∃ a xs,x = .ref a∧SqT K H a xs ∧
 ¬ (HT.sIx xs.length 0 lo=0∧HT.sIx xs.length xs.length hi=xs.length)∧∀ p,H p=none->Q (.ref p) (upd H p (.tup (fK xs lo hi)))
theorem Tf:SlR X (Xn X.K):=by
 intro pins s σ H x v vl vu lo hi sl Q I rx hs pl pu h;obtain⟨a,xs,rfl,hx,hw,q⟩:=h;cases rx;obtain⟨its,r,ht,hz⟩:=I.tuple hx;have hlen:its.toArray.size=xs.length:=by rw[a8];exact r.length.symm
 refine⟨"tuple",_,ic.lookup,ht.typeIs,?_⟩
 refine HT.nO ht hs pl pu (by rw[hlen];exact hw) ?_ (by rw[hlen];exact hz);rw[hlen];refine⟨.ref s.heap.objs.size,_,I.laid (t':=s.toks) (o:=.tup (fK xs lo hi)) (fun b ob q=>Heap.get?_push_of_some _ q) (af _) ?_,rfl,q _ (I.hok.fresh (af _))⟩;exact⟨a5 (pT xs lo hi) hz,_,(r.drop (HT.sIx xs.length 0 lo)).take (HT.sIx xs.length xs.length hi-HT.sIx xs.length 0 lo),IsTup.new _ _⟩
end
def ixN (n:Nat)(i:Int):Option Nat:=if 0<=i then (if i<n then some i.toNat else none) else if -(n:Int)<=i then some (i+n).toNat else none
def atI {α:Type}(xs:List α)(i:Int):Option α:=(ixN xs.length i).bind fun j=>xs[j]?
theorem Rb {n:Nat}{i:Int}{j:Nat}(h:ixN n i=some j):seqIndex? i n=some j∧j<n∧-(n:Int)<=i∧i<n:=by
 unfold ixN at h;by_cases h0:0<=i
 ·rw[if_pos h0] at h
  by_cases h1:i<n
  ·rw[if_pos h1] at h
   have e:i.toNat=j:=ba h;exact⟨by rw[seqIndex_of h0 h1,e],by omega,by omega,h1⟩
  ·rw[if_neg h1] at h;cases h
 ·rw[if_neg h0] at h
  by_cases h1 : -(n:Int)<=i
  ·rw[if_pos h1] at h
   have e:(i+n).toNat=j:=ba h;exact⟨by rw[seqIndex_neg (by omega) h1,e],by omega,h1,by omega⟩
  ·rw[if_neg h1] at h;cases h
theorem zL {α:Type}{xs:List α}{i:Int}{v:α}(h:atI xs i=some v):∃ j,seqIndex? i xs.length=some j∧xs[j]?=some v∧j<xs.length∧-(xs.length:Int)<=i∧i<xs.length:=by
 unfold atI at h
 cases e:ixN xs.length i with
 | none=>rw[e] at h;cases h
 | some j =>
  rw[e] at h;obtain⟨h1,h2,h3,h4⟩:=Rb e;exact⟨j,h1,h,h2,h3,h4⟩
theorem cD {α:Type}{xs:List α}{j:Nat}{v:α}(h:xs[j]?=some v):atI xs (j:Int)=some v:=by
 have hj:j<xs.length:=(ag.mp h).1;have e:ixN xs.length (j:Int)=some j:=by
  unfold ixN;rw[if_pos (by omega),if_pos (by omega)];simp
 unfold atI;rw[e];exact h
theorem Lz {α:Type}(xs:List α)(v:α):atI (xs++[v]) (-1)=some v:=by
 have hl:(xs++[v]).length=xs.length+1:=by simp
 have e:ixN (xs++[v]).length (-1)=some xs.length:=by
  unfold ixN;rw[hl,if_neg (by decide),if_pos (by omega)]
  congr 1
  omega
 unfold atI;rw[e];show (xs++[v])[xs.length]?=some v;simp
def Pe (b:Expr):Prop:=∀ o i,subscripted b false o i=operate [o,i] (getItem o i)
def IxR (X:Cx)(r:R2):Prop :=
 ∀ (value slice:Expr) (pins:List (Addr×Obj)) (s:Shared) (σ:St) (H:Hp) (x y:V) (v u:Value) (Q:VK),Inv X pins σ H s->bE x v->bE y u->r x y H Q ->
  subscripted slice false v u=operate [v,u] (getItem v u)->wpAny (model X.prog X.w) X.A (subscriptTail value slice v u) (EP X pins σ Q) X.xe s
def MtR (X:Cx)(id:String)(r:V->List V->Hp->VK->Prop):Prop :=
 ∀ (pins:List (Addr×Obj)) (s:Shared) (σ:St) (H:Hp) (x:V) (xs:List V) (v:Value) (us:List Value) (Q:VK),Inv X pins σ H s->bE x v->bR xs us->r x xs H Q ->
  wpAny (model X.prog X.w) X.A (call (.builtin id) (v::us)) (EP X pins σ Q) X.xe s
section
variable {X:Cx}{a b:Expr}{ta tb:TE}{pos:Pos}
theorem cU {r:R2}(hr:IxR X r)(ha:PE X a ta)(hb:PE X b tb)(hs:Pe b):PE X (.Subscript a b pos) (tOp r ta tb):=by
 intro pins s σ H Q I h;exact Subscript_ (Tv ha hb I h fun v u s2 x y H2 I2 rx ry q=>hr a b pins s2 σ H2 x y v u Q I2 rx ry q (hs _ _))
def Uw (K:ae):R2:=fun x y H Q=>∃ p xs i v,x = .ref p∧y = .int i∧SqL K H p xs∧atI xs i=some v∧Q v H
def Xp (K:ae):R2:=fun x y H Q=>∃ p xs i v,x = .ref p∧y = .int i∧SqT K H p xs∧atI xs i=some v∧Q v H
def Xq:R2:=fun x y H Q=>∃ z i c,x = .str z∧y = .int i∧z.length<=sizeLine∧atI z.cps.toList i=some c∧Q (.str ⟨#[c]⟩) H
theorem cK:IxR X (Uw X.K):=by
 intro value slice pins s σ H x y v u Q I rx ry h hs;obtain⟨p,xs,i,z,rfl,rfl,hq,he,q⟩:=h;cases rx;obtain⟨t,rfl⟩:=ry;obtain⟨its,r,pl,hz⟩:=I.list hq;obtain⟨j,h1,h2,h3,h4,h5⟩:=zL he;obtain⟨w,ew,rw'⟩:=r.get h2;have hl:=r.length;have hn:=rZ;have fin:EP X pins σ Q w s:=⟨z,H,I,rw',q⟩;by_cases h0:0<=i
 ·have hj:i.toNat=j:=by
   rw[seqIndex_of h0 h5] at h1;exact ba h1
  exact item_listR pl.isList h0 (by omega) (by rw[hj];simpa using ew) fin hs
 ·have hj:(i+(its.toArray.size:Int)).toNat=j:=by
   rw[seqIndex_neg (by omega) h4] at h1;rw[a8,<- hl];exact ba h1
  exact subscriptTail_builtinR (x:=w) pl.isList.typeIs slot_list_getitem.lookup
   (wpAny_getItem_list_neg (Q:=fun r s'=>r=w∧EP X pins σ Q r s') pl.isList (by omega) (by rw[a8] <;> omega) (by omega) (by rw[hj];simpa using ew) ⟨rfl,fin⟩) hs
theorem oA:IxR X (Xp X.K):=by
 intro value slice pins s σ H x y v u Q I rx ry h hs;obtain⟨p,xs,i,z,rfl,rfl,hq,he,q⟩:=h;cases rx;obtain⟨t,rfl⟩:=ry;obtain⟨its,r,pl,hz⟩:=I.tuple hq;obtain⟨j,h1,h2,h3,h4,h5⟩:=zL he;obtain⟨w,ew,rw'⟩:=r.get h2;have hl:=r.length;have hn:=rZ;have fin:EP X pins σ Q w s:=⟨z,H,I,rw',q⟩;exact subscriptTail_builtinR (x:=w) pl.typeIs slot_tuple_getitem.lookup
  (getItem_tuple (j:=j) (Q:=fun r s'=>r=w∧EP X pins σ Q r s') pl (by omega) (by omega) (by rw[a8,<- hl];exact h1) (by simpa using ew) ⟨rfl,fin⟩) hs
theorem Tx:IxR X Xq:=by
 intro value slice pins s σ H x y v u Q I rx ry h hs;obtain⟨z,i,c,rfl,rfl,hz,he,q⟩:=h;obtain⟨t,rfl⟩:=rx;obtain⟨t',rfl⟩:=ry;obtain⟨j,h1,h2,h3,h4,h5⟩:=zL he;have hl:z.cps.toList.length=z.length:=by simp[Str.length]
 rw[hl] at h1 h4 h5;have hn:=rZ;exact tail_any (typeIs_str s z t) slot_str_getitem.lookup (getItem_str (c:=c) (by
  have e1:decide (i < -(2 ^ 63:Int))=false:=decide_eq_false (by omega);have e2:decide (i≥2 ^ 63)=false:=decide_eq_false (by omega);rw[e1,e2,gq]) (by rw[h1];simpa using h2) ⟨.str ⟨#[c]⟩,H,I.tok _,⟨_,rfl⟩,q⟩) hs
theorem yL (lo hi:Option Int)(n:Nat):(sliceBounds lo hi none n).1=((HT.sIx n 0 lo:Nat):Int)∧(sliceBounds lo hi none n).2.1=((HT.sIx n n hi:Nat):Int)∧(sliceBounds lo hi none n).2.2=1:=by
 refine⟨?_,?_,rfl⟩
 ·cases lo with
  | none=>simp[sliceBounds,HT.sIx]
  | some i =>
   simp only [sliceBounds,HT.sIx,qz,show (1:Int)>0 by decide,if_true];by_cases h:i<0
   ·simp only [h,if_true] <;> omega
   ·simp only [h,if_false] <;> omega
 ·cases hi with
  | none=>simp[sliceBounds,HT.sIx]
  | some i =>
   simp only [sliceBounds,HT.sIx,qz,show (1:Int)>0 by decide,if_true];by_cases h:i<0
   ·simp only [h,if_true] <;> omega
   ·simp only [h,if_false] <;> omega
theorem uZ (its:List Value)(lo hi:Option Int):slicePick its.toArray lo hi none=((its.drop (HT.sIx its.length 0 lo)).take (HT.sIx its.length its.length hi-HT.sIx its.length 0 lo)).toArray:=by
 obtain⟨h1,h2,h3⟩:=yL lo hi its.toArray.size;unfold slicePick;rw[h1,h2,h3];simp only [sliceRange_one,pick_run,a8] <;> rfl
def Xd (K:ae):V->Option Int->Option Int->Hp->VK->Prop:=fun x lo hi H Q=>∃ a xs,x = .ref a∧SqL K H a xs∧∀ p,H p=none->Q (.ref p) (upd H p (.lst (fK xs lo hi)))
theorem hU:SlR X (Xd X.K):=by
 intro pins s σ H x v vl vu lo hi sl Q I rx hs pl pu h;obtain⟨a,xs,rfl,hx,q⟩:=h;cases rx;obtain⟨its,r,ht,hz⟩:=I.list hx;have hlen:=r.length;refine⟨"list",_,slot_list_getitem.lookup,ht.isList.typeIs,?_⟩
 refine wpAny_getItem_list_slice ht.isList hs pl pu .none (by simp) ?_ (by rw[a8] <;> omega);rw[uZ,<- hlen];refine⟨.ref s.heap.objs.size,_,I.laid (t':=s.toks) (o:=.lst (fK xs lo hi)) (fun b ob q=>Heap.get?_push_of_some _ q) (af _) ?_,rfl,q _ (I.hok.fresh (af _))⟩;exact⟨a5 (pT xs lo hi) hz,_,0,(r.drop (HT.sIx xs.length 0 lo)).take (HT.sIx xs.length xs.length hi-HT.sIx xs.length 0 lo),Heap.get?_push_size _ rfl⟩
def iX:V->Bool
 | .non=>true
 | .bl _=>true
 | .int _=>true
 | .str _=>true
 | _=>false
def eqV:V->V->Bool
 | .non,.non=>true
 | .bl a,.bl b=>a==b
 | .bl a,.int b=>(if a then 1 else 0)==b
 | .int a,.bl b=>a==(if b then 1 else 0)
 | .int a,.int b=>a==b
 | .str a,.str b=>a==b
 | _,_=>false
theorem Kx {A:Around}{s:Shared}{y x:V}{u v:Value}(ry:bE y u)(rx:bE x v)(fy:iX y=true)(fx:iX x=true):SeqAt.EqAt A s u v (eqV y x):=by
 cases y with
 | non =>
  cases ry
  cases x with
  | non=>cases rx;exact SeqAt.EqAt.same _
  | bl b=>cases rx;exact SeqAt.EqAt.none_bool b
  | int b=>obtain⟨t,rfl⟩:=rx;exact SeqAt.EqAt.none_int b t
  | str b=>obtain⟨t,rfl⟩:=rx;exact SeqAt.EqAt.none_str b t
  | _=>exact absurd (show false=true from fx) ak
 | bl a =>
  cases ry
  cases x with
  | non=>cases rx;exact SeqAt.EqAt.bool_none a
  | bl b=>cases rx;exact SeqAt.EqAt.bool_bool a b
  | int b=>obtain⟨t,rfl⟩:=rx;exact SeqAt.EqAt.bool_int a b t
  | str b=>obtain⟨t,rfl⟩:=rx;exact SeqAt.EqAt.bool_str a b t
  | _=>exact absurd (show false=true from fx) ak
 | int a =>
  obtain⟨t',rfl⟩:=ry
  cases x with
  | non=>cases rx;exact SeqAt.EqAt.int_none a t'
  | bl b=>cases rx;exact SeqAt.EqAt.int_bool a t' b
  | int b=>obtain⟨t,rfl⟩:=rx;exact SeqAt.EqAt.int_int a t' b t
  | str b=>obtain⟨t,rfl⟩:=rx;exact SeqAt.EqAt.int_str a t' b t
  | _=>exact absurd (show false=true from fx) ak
 | str a =>
  obtain⟨t',rfl⟩:=ry
  cases x with
  | non=>cases rx;exact SeqAt.EqAt.str_none a t'
  | bl b=>cases rx;exact SeqAt.EqAt.str_bool a t' b
  | int b=>obtain⟨t,rfl⟩:=rx;exact SeqAt.EqAt.str_int a t' b t
  | str b=>obtain⟨t,rfl⟩:=rx;exact SeqAt.EqAt.str_str a t' b t
  | _=>exact absurd (show false=true from fx) ak
 | _=>exact absurd (show false=true from fy) ak
def eqU (x:V)(u:Value):Bool:=match u with
 | .none=>eqV .non x
 | .bool b=>eqV (.bl b) x
 | .int i _=>eqV (.int i) x
 | .str z _=>eqV (.str z) x
 | _=>false
theorem Ee {x y:V}{u:Value}(r:bE y u)(f:iX y=true):eqU x u=eqV y x:=by
 cases y with
 | non=>cases r;rfl
 | bl b=>cases r;rfl
 | int i=>obtain⟨t,rfl⟩:=r;rfl
 | str z=>obtain⟨t,rfl⟩:=r;rfl
 | _=>exact absurd (show false=true from f) ak
theorem nA {x:V}:∀ {xs:List V} {us:List Value},bR xs us->xs.all iX=true->us.any (eqU x)=xs.any fun y=>eqV y x
 | _,_,.nil,_=>rfl
 | y::xs,u::us,.cons r t,f=>by
  rw[pj,cr] at f;rw[lb,lb,Ee r f.1,nA t f.2]
theorem jG {A:Around}{s:Shared}{x:V}{v:Value}(rx:bE x v)(fx:iX x=true):∀ {xs:List V} {us:List Value},bR xs us->xs.all iX=true->∀ u∈us,SeqAt.EqAt A s u v (eqU x u)
 | _,_,.nil,_=>fun u hu=>by cases hu
 | y::xs,u::us,.cons r t,f=>fun u' hu=>by
  rw[pj,cr] at f;rcases aw.mp hu with rfl | hu
  ·rw[Ee r f.1];exact Kx r rx f.1 fx
  ·exact jG rx fx t f.2 u' hu
def inV (x:V)(xs:List V):Bool:=xs.any fun y=>eqV y x
def rIn (K:ae)(neg:Bool):R2:=fun x y H Q=>∃ p xs,y = .ref p∧(SqL K H p xs∨SqT K H p xs)∧iX x=true∧xs.all iX=true∧Q (.bl (if neg then !inV x xs else inV x xs)) H
theorem Iw:OpR X (compareOp .In) (rIn X.K false):=by
 intro pins s σ H x y v u Q I rx ry h;obtain⟨p,xs,rfl,hq,fx,fs,q⟩:=h;cases ry;rcases hq with hq | hq
 ·obtain⟨its,r,pl,hz⟩:=I.list hq
  refine SeqAt.in_listAt (eqU x) pl.isList (fun w hw=>jG rx fx r fs w (by simpa using hw)) ⟨.bl _,H,I,rfl,?_⟩;rw[show its.toArray.any (eqU x)=its.any (eqU x) by simp,nA r fs];exact q
 ·obtain⟨its,r,pl,hz⟩:=I.tuple hq
  refine SeqAt.in_tupleAt (eqU x) pl (fun w hw=>jG rx fx r fs w (by simpa using hw)) ⟨.bl _,H,I,rfl,?_⟩;rw[show its.toArray.any (eqU x)=its.any (eqU x) by simp,nA r fs];exact q
theorem nH:OpR X (compareOp .NotIn) (rIn X.K true):=by
 intro pins s σ H x y v u Q I rx ry h;obtain⟨p,xs,rfl,hq,fx,fs,q⟩:=h;cases ry;rcases hq with hq | hq
 ·obtain⟨its,r,pl,hz⟩:=I.list hq
  refine SeqAt.notIn_listAt (eqU x) pl.isList (fun w hw=>jG rx fx r fs w (by simpa using hw)) ⟨.bl _,H,I,rfl,?_⟩;rw[show its.toArray.any (eqU x)=its.any (eqU x) by simp,nA r fs];exact q
 ·obtain⟨its,r,pl,hz⟩:=I.tuple hq
  refine SeqAt.notIn_tupleAt (eqU x) pl (fun w hw=>jG rx fx r fs w (by simpa using hw)) ⟨.bl _,H,I,rfl,?_⟩;rw[show its.toArray.any (eqU x)=its.any (eqU x) by simp,nA r fs];exact q
theorem aX:eP X (.builtin "len") (fun xs H Q=>∃ p ys,xs=[.ref p]∧(SqL X.K H p ys∨SqT X.K H p ys)∧Q (.int ys.length) H):=by
 intro pins s σ H xs us Q I r h;obtain⟨p,ys,rfl,hq,q⟩:=h;obtain⟨u,rfl,rx⟩:=gD r;cases rx;have hn:=rZ;rcases hq with hq | hq
 ·obtain⟨its,r',pl,hz⟩:=I.list hq
  have hlen:=r'.length;exact Calls.call_len_list pl.isList (by simp only [a8] <;> omega) ⟨.int ys.length,H,I.tok _,⟨s.toks+1,by rw[a8,hlen]⟩,q⟩
 ·obtain⟨its,r',pl,hz⟩:=I.tuple hq
  have hlen:=r'.length;exact len_tuple pl (by simp only [a8] <;> omega) ⟨.int ys.length,H,I.tok _,⟨s.toks+1,by rw[a8,hlen]⟩,q⟩
theorem zG:eP X (.builtin "len") (fun xs H Q=>∃ z,xs=[.str z]∧z.length<=sizeLine∧Q (.int z.length) H):=by
 intro pins s σ H xs us Q I r h;obtain⟨z,rfl,hz,q⟩:=h;obtain⟨u,rfl,t,rfl⟩:=gD r;have hn:=rZ;exact len_str (by omega) ⟨.int z.length,H,I.tok _,⟨_,rfl⟩,q⟩
theorem hX:eP X (.type "list") (fun xs H Q=>∃ p ys,xs=[.ref p]∧(SqL X.K H p ys∨SqT X.K H p ys)∧∀ l,H l=none->Q (.ref l) (upd H l (.lst ys))):=by
 intro pins s σ H xs us Q I r h;obtain⟨p,ys,rfl,hq,q⟩:=h;obtain⟨u,rfl,rx⟩:=gD r;cases rx;have fin:∀ (its:List Value),bR ys its->ys.length<=sizeLine->∀ (h':Heap) (c':Nat),(∀ b o',s.heap.get? b=some o'->h'.get? b=some o') ->
   h'.get? s.heap.objs.size=some { cls:=.type "list",dict:=none,data:=.seq its.toArray c',slots:=#[] }->EP X pins σ Q (.ref s.heap.objs.size) { s with heap:=h' }:=fun its r' hz h' c' kp e =>
  ⟨.ref s.heap.objs.size,_,I.laid (t':=s.toks) kp (af _) (show cH X.prog X.w _ h' _ (.lst ys) from ⟨hz,its,c',r',e⟩),rfl,q _ (I.hok.fresh (af _))⟩
 rcases hq with hq | hq
 ·obtain⟨its,r',pl,hz⟩:=I.list hq
  have hlen:=r'.length;obtain⟨o,ho,hc,n,hd⟩:=pl.isList;exact call_list_seq p (.inl rfl) ho hc hd (fun h' c' kp e=>fin its r' hz h' c' kp e) (by simp only [a8] <;> omega)
 ·obtain⟨its,r',pl,hz⟩:=I.tuple hq
  have hlen:=r'.length;obtain⟨o,ho,hc,n,hd⟩:=pl;exact call_list_seq p (.inr rfl) ho hc hd (fun h' c' kp e=>fin its r' hz h' c' kp e) (by simp only [a8] <;> omega)
theorem jB:eP X (.type "tuple") (fun xs H Q=>∃ p ys,xs=[.ref p]∧((SqL X.K H p ys∧∀ l,H l=none->Q (.ref l) (upd H l (.tup ys)))∨(SqT X.K H p ys∧Q (.ref p) H))):=by
 intro pins s σ H xs us Q I r h;obtain⟨p,ys,rfl,h⟩:=h;obtain⟨u,rfl,rx⟩:=gD r;cases rx;rcases h with ⟨hq,q⟩ | ⟨hq,q⟩
 ·obtain⟨its,r',pl,hz⟩:=I.list hq
  have hlen:=r'.length;refine call_tuple_list pl.isList (fun h' kp=>?_) (by simp only [a8] <;> omega);have I1:Inv X pins σ H { s with heap:=h' }:=I.kept (t':=s.toks) kp;have I2:Inv X pins σ (upd H h'.objs.size (.tup ys)) { s with heap:=h'.push { cls:=.type "tuple",data:=.seq its.toArray } } :=
   I1.laid (t':=s.toks) (fun b o e=>Heap.get?_push_of_some _ e) (af _) (show cH X.prog X.w _ _ _ (.tup ys) from ⟨hz,its,r',IsTup.new _ _⟩)
  exact⟨.ref h'.objs.size,_,I2,rfl,q _ (I1.hok.fresh (af _))⟩
 ·obtain⟨its,r',pl,hz⟩:=I.tuple hq
  exact call_tuple_same pl ⟨.ref p,H,I,rfl,q⟩
def tyV (K:ae)(T:String)(x:V)(H:Hp):Prop:=match x with
 | .str _=>T = "str"
 | .int _=>T = "int"
 | .ref p=>(T = "list" ∧ ∃ xs,SqL K H p xs)∨(T = "tuple" ∧ ∃ o,K.lookup p=some o∧o.cls = .type "tuple" ∧ o.dict=none) ∨
  (T = "dict" ∧ ((∃ kvs,H p=some (.dK kvs))∨∃ kvs,H p=some (.dT kvs)))∨(T = "set" ∧ ∃ S n,H p=some (.set S n))
 | _=>False
theorem Si {pins:List (Addr×Obj)}{σ:St}{H:Hp}{s:Shared}{T:String}{x:V}{v:Value}(I:Inv X pins σ H s)(r:bE x v)(ty:tyV X.K T x H) :
  s.TypeIs v T∧∀ a,v = .ref a->∃ ob,s.heap.get? a=some ob∧ob.dict=none:=by
 cases x with
 | str z =>
  obtain⟨t,rfl⟩:=r;cases (show T = "str" from ty)
  exact⟨typeIs_str s z t,fun _ e=>nomatch e⟩
 | int i =>
  obtain⟨t,rfl⟩:=r;cases (show T = "int" from ty)
  exact⟨typeIs_int s i t,fun _ e=>nomatch e⟩
 | ref p =>
  cases r;rcases ty with ⟨rfl,xs,hq⟩ | ⟨rfl,o,hk,hc,hd⟩ | ⟨rfl,hk⟩ | ⟨rfl,S,n,hk⟩
  ·obtain⟨its,_,pl,_⟩:=I.list hq
   refine⟨pl.isList.typeIs,fun a e=>?_⟩;cases e;obtain⟨o,n,e,c,hd,_⟩:=pl;exact⟨o,e,hd⟩
  ·refine⟨⟨o,I.kIn p o hk,hc⟩,fun a e=>?_⟩
   cases e;exact⟨o,I.kIn _ o hk,hd⟩
  ·have z:∃ o,s.heap.get? p=some o∧o.ExactDict:=by
    rcases hk with ⟨kvs,hk⟩ | ⟨kvs,hk⟩
    ·obtain⟨_,_,_,_,o,_,_,e,ex,_⟩:=I.hok p _ hk
     exact⟨o,e,ex⟩
    ·obtain⟨_,_,_,_,o,_,_,e,ex,_⟩:=I.hok p _ hk
     exact⟨o,e,ex⟩
   obtain⟨o,e,ex⟩:=z;refine⟨⟨o,e,ex.1⟩,fun a e2=>?_⟩;cases e2;exact⟨o,e,ex.2.1⟩
  ·obtain⟨o,_,_,_,e,ex,_⟩:=I.hok p _ hk
   refine⟨⟨o,e,ex.1⟩,fun a e2=>?_⟩;cases e2;exact⟨o,e,ex.2.1⟩
 | _=>exact False.elim ty
def tBM (K:ae)(T:String)(r:V->List V->Hp->VK->Prop)(to:TE)(t:TA):TE:=fun σ H Q=>to σ H fun x H1=>tyV K T x H1∧t σ H1 fun xs H2=>r x xs H2 Q
variable {o e:Expr}{es:List Expr}{to:TE}{t:TA}{name:Str}{apos cpos:Pos}{T id:String}{r:V->List V->Hp->VK->Prop}
theorem Az (pa:PlainAttrs T)(slot:Slot T name id)(hty:typeOf (.builtin id)=pure (.type "method_descriptor"))(hm:MtR X id r)(ho:PE X o to)(ha:PA X (e::es) t)
  (hbase:attributeBase o name X.env (eval o X.env)=eval o X.env:=by rfl)
  (hfew:((backTo cpos (starEach (e::es) X.env)).all (fun x=>!x.1)&&(backToKw cpos (keywordEach [] X.env)).all (fun x=>x.1.isSome)
   && decide ((e::es).length+([]:List Keyword).length+(if ([]:List Keyword).isEmpty then 0 else 1)<30))=true:=by rfl)
  (hline:(apos.endLine==cpos.line)=true:=by rfl) (hs:starEach (e::es) X.env=(false,eval e X.env)::starEach es X.env:=by rfl) (hplain:(backTo cpos (starEach es X.env)).any (·.1)=false:=by rfl) :
  PE X (.Call (.Attribute o name apos) (e::es) [] cpos) (tBM X.K T r to t):=by
 intro pins s σ H Q I h;refine wpAny_Call_method_late hbase hfew hline rfl (thn (ho pins s σ H _ I h) fun v s1 ⟨x,H1,I1,r1,ty,q1⟩=>?_);obtain⟨h1,h2⟩:=Si I1 r1 ty;refine⟨T,id,pa,slot,hty,h1,h2,?_⟩;have hA:=ha cpos pins s1 σ H1 _ I1 q1;rw[hs] at hA ⊢;refine Calls.callWith_builtin (by show (false||(backTo cpos (starEach es X.env)).any (·.1))=false;rw[hplain] <;> rfl) (Calls.evalArgs_plain ?_);exact thn hA fun us s2 ⟨vs,H2,I2,r2,q2⟩=>hm pins s2 σ H2 x vs v us Q I2 r1 r2 q2
end
def MtM (X:Cx)(id:String)(r:V->List V->Hp->VK->Prop):Prop :=
 ∀ (pins:List (Addr×Obj)) (s:Shared) (σ:St) (H:Hp) (x:V) (xs:List V) (v:Value) (us:List Value) (Q:VK),Inv X pins σ H s->bE x v->bR xs us->r x xs H Q ->
  wpAny (model X.prog X.w) X.A (call (.builtin id) (v::us)) (EP X pins σ Q) X.xe s
theorem bR.one:∀ {x:V} {us:List Value},bR [x] us->∃ u,us=[u]∧bE x u
 | _,_,.cons r .nil=>⟨_,rfl,r⟩
section
variable {X:Cx}{pins:List (Addr×Obj)}{σ:St}{H:Hp}{s:Shared}{l b:Addr}{xs ys zs:List V}
theorem Inv.lset {its its':List Value}{n:Nat}{f:Array Value->Array Value}{t':Nat}(I:Inv X pins σ H s)(hH:H l=some (.lst xs))
  (e:s.heap.get? l=some { cls:=.type "list",data:=.seq its.toArray n }) (hf:f its.toArray=its'.toArray) (hv:bR ys its') (hz:ys.length<=sizeLine) :
  Inv X pins σ (upd H l (.lst ys)) { s with heap:=s.heap.update l (Obj.mapSeq f),toks:=t' }:=by
 have q:=PySem.IsL.update e f;rw[hf] at q;refine I.write (x:=l) (e:=l) (by rw[hH];exact trivial) (.inl rfl) (fun b' u hb hu=>(Heap.get?_update_other s.heap (Obj.mapSeq f) (Ne.symm hb)).trans hu) ⟨_,q⟩ ?_;exact⟨hz,its',_,hv,q⟩
theorem Inv.lnew {its:List Value}{t':Nat}(I:Inv X pins σ H s)(hv:bR ys its)(hz:ys.length<=sizeLine) :
  Inv X pins σ (upd H s.heap.objs.size (.lst ys)) { s with heap:=s.heap.push { cls:=.type "list",data:=.seq its.toArray },toks:=t' } :=
 I.laid (fun _ _ q=>Heap.get?_push_of_some _ q) (af _) ⟨hz,its,0,hv,Heap.get?_push_size _ rfl⟩
theorem Inv.fresh (I:Inv X pins σ H s):H s.heap.objs.size=none:=I.hok.fresh (af _)
theorem Inv.lstM (I:Inv X pins σ H s)(hH:H l=some (.lst xs)):xs.length<=sizeLine∧∃ (its:List Value) (n:Nat),bR xs its∧xs.length=its.length∧s.heap.get? l=some { cls:=.type "list",data:=.seq its.toArray n }:=by
 obtain⟨z,its,n,r,e⟩:=I.hok l _ hH;exact⟨z,its,n,r,r.length,e⟩
end
section
variable {X:Cx}
def Qp:V->List V->Hp->VK->Prop:=fun x vs H Q=>∃ l xs y,x = .ref l∧vs=[y]∧H l=some (.lst xs)∧xs.length<sizeLine∧Q .non (upd H l (.lst (xs++[y])))
theorem jM:MtM X "list.append" Qp:=by
 intro pins s σ H x vs v us Q I rx rv h;obtain⟨l,xs,y,rfl,rfl,hH,hz,q⟩:=h;cases rx;obtain⟨u,rfl,ru⟩:=rv.one;obtain⟨z,its,n,r,hl,e⟩:=I.lstM hH;refine call_meets F.slot_list_append ⟨_,e,rfl⟩ F.entry_list_append (F.args_list_append_2 _ _) (PySem.list_append l its.toArray n u (by rw[a8];omega)) ⟨e,?_⟩;refine⟨.non,_,I.lset (its':=its++[u]) hH e (by simp) (r.append (.cons ru .nil)) ?_,rfl,q⟩;rw[aq,b7];omega
end
section
variable {prog:Program}{w:World}{A:Around}{E:Value->Shared->Prop}{s:Shared}
end
section
variable {X:Cx}
end
end L2
namespace Att
open PySem PySem.W PySem.Calls PyProof.Rows
theorem qI {P:Params}{h:Heap}:∀ (ns:List Int) (vs:List Value),WellAll P h vs (ns.map WData.int)->IntsAre vs ns:=by
 intro ns
 induction ns with
 | nil =>
  intro vs w;rw[g7] at w;cases w;exact .nil
 | cons n ns ih =>
  intro vs w;rw[am] at w
  cases w with
  | cons a b =>
   cases a;exact .cons _ _ (ih _ b)
theorem Hv {l:OpenLaw}{n:Nat}(hn:l.most=some n){P:Params}{h:Heap}{args:List WData}{vals:List Value}
  (hpre:l.row.toRowW.claim.pre args=true) (hwl:WellAll P h vals args) :
  ∃ a vs ns,vals=[Value.ref a]∧args=[WData.list (ns.map WData.int)]∧h.get? a=some { cls:=.type "list",data:=.seq vs.toArray }∧IntsAre vs ns∧ns.length<=n:=by
 have hsh:WShape.hasAll [] args [.list .int]=true:=(pre_splitW hpre).1;have hc:l.pre.holds [] { args:=args }=true:=(pre_splitW hpre).2;obtain⟨d,r,rfl,h1,h2⟩:=hasAllW_cons hsh;obtain rfl:=hasAllW_nil h2;obtain⟨xs,rfl,h3⟩:=hasW_list h1;obtain⟨ns,rfl⟩:=items_int h3;have hlen:ns.length<=n:=by
  unfold OpenLaw.pre at hc;have h4:(WTm.not (.lt (.lit (.int (n:Int))) (.len (.arg 0)))).holds [] { args:=[.list (ns.map .int)] }=true:=by
   have h4:=(holds_andW hc).1;rw[hn] at h4;exact h4
  have h5:=condW_of h4 (w_not (w_lt w_lit (w_len_list (w_arg rfl))));rw[aR] at h5;refine Nat.le_of_not_lt fun q=>?_
  have q':(n:Int)<((ns.length:Nat):Int):=by omega
  first
   | (rw[decide_eq_true q'] at h5;exact absurd h5 (by decide))
   | (simp at h5;omega)
 cases hwl with
 | cons w1 w2 =>
  cases w2
  cases w1 with
  | list ho hall=>exact⟨_,_,ns,rfl,rfl,ho,qI ns _ hall,hlen⟩
theorem Ia (l:OpenLaw)(args:List WData):l.row.toRowW.claim.post args (.bool true) args=true :=
 postW_of (r:=l.row.toRowW) (X:=(true==true))
  (show WShape.has [] (.bool true) .bool=true by first | rfl | decide | simp[WShape.has,WShape.arms,WShape.armsAll])
  (show (WTm.eq .res (.lit (.bool true))).value [] { args:=args,res:=some (.bool true),after:=args }=some (.bool (true==true)) from w_eq_bool (w_res rfl) w_lit) rfl
theorem zU {l:OpenLaw}{n:Nat}{q:Program}{loose:List Str}{XP:(Str->Option Value)->Heap->Prop}{YP:World->Heap->Prop}{d:DefRec}
  (hn:l.most=some n) (hdf:d.params.defaults=[])
  (call:∀ (w:World) (s₀ s₁:Shared) (mg mb:Str->Option Value) (fa:Addr) (o:Obj) (pm cd doc:Value) (a:Addr) (vs:List Value) (ns:List Int),
   Ground q loose [] XP w s₀ mg mb s₁.heap->YP w s₁.heap ->
   s₁.heap.get? fa=some o->o.data = .func (docDef d.name d.params d.body d.scope pm cd doc)->s₁.heap.CodeRec cd d.name->mg d.name=some (.ref fa) ->
   s₁.heap.get? a=some { cls:=.type "list",data:=.seq vs.toArray }->IntsAre vs ns->ns.length<=n->s₁.gens = #[] ->
   codeAny (model l.prog w) callerA (.call (.ref fa) ⟨[.ref a],[]⟩) (fun r s'=>r = .ok (.ret (.bool true))∧OldK s₁.heap s'.heap∧s'.os=s₁.os∧AllBare s'.gens) s₁) :
  WalkO q loose XP YP l.row.toRowW d [] (fun f vs=>se f vs):=by
 intro w s₀ s₁ mg mb G Y fa o pm cd doc dV kV ho hd hcd hD hmg hg args vals as hpre hlay hrd hwl hlo;obtain rfl:dV = .none:=Dflts.none hD hdf;obtain rfl:kV = .none:=Dflts.noKw hD;obtain⟨a,vs,ns,rfl,rfl,hobj,hints,hlen⟩:=Hv hn hpre hwl;refine enter_call (codeAny_mono (call w s₀ s₁ mg mb fa o pm cd doc a vs ns G Y ho (fd_plain hd) hcd hmg hobj hints hlen hg) fun r s' hq=>?_);obtain⟨rfl,h2,h3,h4⟩:=hq;exact⟨.inl ⟨.bool true,.bool true,[],rfl,fun _=>rfl,.bool true,Ia l _,fun _=>⟨qj,fun _ hm=>(nomatch hm)⟩⟩,h2,h3,h4⟩
section
variable {prog:Program}{w:World}{A:Around}{E:Value->Shared->Prop}{s:Shared}{K:Frag}
end
end Att
namespace L2
open PySem PySem.Spec PyProof.Rows
theorem pH:∀ {vs:List Value} {ns:List Int},IntsAre vs ns->bR (ns.map V.int) vs
 | _,_,.nil=>.nil
 | _,_,.cons n t h=>.cons ⟨t,rfl⟩ (pH h)
def Sx (H:Hp):Prop:=∀ b,H b=none∨∃ o xs,H b=some (.frz o (.lst xs))
theorem Lh {P:Program}{w:World}{K:ae}{mg mb:Str->Option Value}{CX:CXT}{k:Nat}{fa a:Addr}{fd:FuncData}{x:Str}{sp:Sp}{s₁:Shared}{vs:List Value}{ns:List Int}
  (KX:K.In s₁.heap) (hns:s₁.heap.Ns mainGlobals mg) (hb:s₁.heap.Ns builtinsNs mb) (hbb:∀ x:Str,x ≠ "__name__" -> mb x=bootBuiltins x) (hlim:s₁.heap.NoLimit) (hg:s₁.gens = #[])
  (ha:s₁.heap.get? a=some { cls:=.type "list",data:=.seq vs.toArray }) (hi:IntsAre vs ns) (hl:ns.length<=sizeLine) (hr:gX k callerA)
  (F:∀ base:Heap,K.In base->base.Ns mainGlobals mg->bQ P w K mg base CX k fa fd [x] sp) (hbind:∀ (s:Shared) (u:Value),BindsTo s fd ⟨[u],[]⟩ [(x,u)])
  (hsp:∀ H:Hp,Sx H->SqL K H a (ns.map V.int)->sp [.ref a] H (fun v _=>v = .bl true) fun _ _ _=>False)
  (hCX:∀ H e s',CX [] H s₁ (fun _ _ _=>False) e s'->False) :
  codeAny (model P w) callerA (.call (.ref fa) ⟨[.ref a],[]⟩) (fun r s'=>r = .ok (.ret (.bool true))∧OldK s₁.heap s'.heap∧s'.os=s₁.os∧AllBare s'.gens) s₁:=by
 have rv:=pH hi;have lenV:=hi.length;have core:∀ H:Hp,Sx H->SqL K H a (ns.map V.int)->HOk P w H s₁.heap->(∀ b,H b≠none->b=a)->(H a≠none->K.lookup a=none) ->
   codeAny (model P w) callerA (.call (.ref fa) ⟨[.ref a],[]⟩) (fun r s'=>r = .ok (.ret (.bool true))∧OldK s₁.heap s'.heap∧s'.os=s₁.os∧AllBare s'.gens) s₁:=by
  intro H hO hS hok hA hK;have base_of:∀ {b:Addr} {o:Obj},s₁.heap.get? b=some o->H b=none->(xR s₁.heap H).get? b=some o:=fun e n=>Ln e n
  have noA:∀ {b:Addr} {o:Obj} {es:Array DictEntry} {ep:Nat},s₁.heap.get? b=some o->o.data = .dict es ep->H b=none:=fun {b o es ep} e d=>by
   cases q:H b with
   | none=>rfl
   | some u =>
    have e':b=a:=hA b (by rw[q];simp);subst e';rw[ha] at e;cases e;have d':Data.seq vs.toArray _=Data.dict es ep:=d;cases d'
  have nsK:∀ {b:Addr} {m:Str->Option Value},s₁.heap.Ns b m->(xR s₁.heap H).Ns b m:=fun {b m} ⟨o,es,ep,e,d,r⟩=>⟨o,es,ep,base_of e (noA e d),d,r⟩
  have hKb:K.In (xR s₁.heap H):=fun b o e=>base_of (KX b o e) (by
   cases q:H b with
   | none=>rfl
   | some u =>
    have e':b=a:=hA b (by rw[q];simp);subst e';rw[hK (by rw[q];simp)] at e;cases e)
  have hM:Mod K mg (xR s₁.heap H):=⟨hKb,nsK hns,⟨mb,nsK hb,hbb⟩,let ⟨mc,h1,h2⟩:=hlim;⟨mc,nsK h1,h2⟩⟩;have e0:Ed P w K mg (xR s₁.heap H) callerA [] s₁ H:=⟨rfl,hM,fun b o e=>Qq e,lu (Ie _ _),trivial,fun b hb=>absurd (show b∈([]:List Addr) from hb) (by simp),hok,.of_eq hg⟩;refine codeAny_mono ((F _ hKb (nsK hns)).run callerA [] s₁ H ⟨[.ref a],[]⟩ [.ref a] [.ref a] _ _ hr e0 (hbind s₁ (.ref a)) (.cons rfl .nil) (hsp H hO hS)) fun r s' h=>?_
  cases r with
  | error e=>exact (hCX H e s' h).elim
  | ok fl =>
   cases fl with
   | next=>exact False.elim h
   | brk=>exact False.elim h
   | cont=>exact False.elim h
   | ret u =>
    obtain⟨v,H',os,bare,un,hok',r',q⟩:=h;have q':v = .bl true:=q;subst q';obtain rfl:u=Value.bool true:=r';refine⟨rfl,OldK.of_keep fun b o e=>?_,os,bare⟩
    cases q:H b with
    | none=>exact un.keep b o e q (by intro z;exact absurd (show b∈([]:List Addr) from z) (by simp)) (by simp)
    | some u =>
     rcases hO b with z | ⟨ob,xs,z⟩
     ·rw[q] at z;cases z
     ·have z2:=un.frzs b ob _ z
      obtain⟨e1,_⟩:=hok b _ z;obtain⟨e2,_⟩:=hok' b _ z2;rw[e] at e1;cases e1;exact e2
 cases hk:K.lookup a with
 | some o =>
  have e:=KX a o hk;rw[ha] at e;cases e;refine core (fun _=>none) (fun _=>.inl rfl) (.inr ⟨_,vs.toArray,_,hk,rfl,rfl,rfl,by rw[a8,lenV];exact hl,by simpa using rv⟩) (fun b u z=>by have z':(none:Option HO)=some u:=z;cases z') (fun b z=>absurd rfl z) fun z=>absurd rfl z
 | none =>
  refine core (fun b=>if b=a then some (.frz { cls:=.type "list",data:=.seq vs.toArray } (.lst (ns.map V.int))) else none) (fun b=>?_) (.inl (.inr ⟨{ cls:=.type "list",data:=.seq vs.toArray },if_pos rfl⟩)) (fun b u z=>?_) (fun b z=>?_) fun _=>hk
  ·by_cases hb:b=a
   ·exact .inr ⟨_,_,if_pos hb⟩
   ·exact .inl (if_neg hb)
  ·by_cases hb:b=a
   ·have z':=(if_pos hb).symm.trans z
    cases z';subst hb;exact⟨ha,by rw[aR];exact hl,vs,_,rv,ha⟩
   ·have z':=(if_neg hb).symm.trans z
    cases z'
  ·by_cases hb:b=a
   ·exact hb
   ·exact absurd (if_neg hb) z
theorem Pq {l:n9}{n k:Nat}{q:Program}{loose:List Str}{XP:(Str->Option Value)->Heap->Prop}{YP:World->Heap->Prop}{d:DefRec}{K:Params->ae}{CX:World->CXT}{sp:World->Sp}{x:Str}
  (hn:l.most=some n) (hn2:n<=sizeLine) (hdf:d.params.defaults=[]) (hr:gX k callerA)
  (hY:∀ (w:World) (h:Heap),YP w h->(K w.params).In h)
  (F:∀ (w:World) (mg:Str->Option Value) (fa:Addr) (h:Heap),(K w.params).In h->h.Ns mainGlobals mg->mg d.name=some (.ref fa) ->
   ∃ fd:FuncData,(∀ (s:Shared) (u:Value),BindsTo s fd ⟨[u],[]⟩ [(x,u)]) ∧
    ∀ base:Heap,(K w.params).In base->base.Ns mainGlobals mg->bQ l.prog w (K w.params) mg base (CX w) k fa fd [x] (sp w))
  (hsp:∀ (w:World) (H:Hp) (a:Addr) (ns:List Int),ns.length<=n->Sx H->SqL (K w.params) H a (ns.map V.int)->sp w [.ref a] H (fun v _=>v = .bl true) fun _ _ _=>False)
  (hCX:∀ (w:World) (H:Hp) (s:Shared) (e:Value) (s':Shared),CX w [] H s (fun _ _ _=>False) e s'->False) :
  tj q loose XP YP l.row.toRowW d [] (fun f vs=>se f vs):=by
 refine Att.zU hn hdf fun w s₀ s₁ mg mb fa o pm cd doc a vs ns G Y ho hd hcd hmg hobj hints hlen hg=>?_
 have KX:=hY w _ Y;obtain⟨fd,hb,hF⟩:=F w mg fa _ KX G.T.g hmg;exact Lh KX G.T.g G.T.b G.T.builtins G.T.nolimit hg hobj hints (a5 hlen hn2) hr hF hb (fun H hO hS=>hsp w H a ns hlen hO hS) fun H e s'=>hCX w H s₁ e s'
def Qy (s:Stmt)(j:Nat):Stmt:=match s with
 | .ClassDef _ _ _ body _ _ _ _ _ _ _=>body.getD j (.Pass ⟨0,0,0,0⟩)
 | _=>.Pass ⟨0,0,0,0⟩
def aQ (s:Stmt):Arguments:=match s with
 | .FunctionDef _ a _ _ _ _ _ _ _ _=>a
 | _=>{ posonlyargs:=[],args:=[],vararg:=none,kwonlyargs:=[],kw_defaults:=[],kwarg:=none,defaults:=[] }
def aP (s:Stmt):List Stmt:=match s with
 | .FunctionDef _ _ b _ _ _ _ _ _ _=>b
 | _=>[]
def aD (s:Stmt):Scope:=match s with
 | .FunctionDef _ _ _ _ _ _ sc _ _ _=>sc
 | _=>{ kind:=.function,names:=[],isGenerator:=false,isCoroutine:=false }
abbrev E0:XK:=fun _ _ _=>False
structure Fun (K:ae)(x qual:Str)(st:Stmt)(f:Addr)(fd:FuncData):Prop where
 ex:∃ (oc:Value) (od:Option Addr) (kV doc pm:Value) (an:Option Addr) (cdv ct:Value) (osl:Array (Option Value)),
  fd=a0 x qual (aQ st) (aP st) (aD st) .none kV doc pm an cdv ct∧K.lookup f=some ⟨oc,od,.func fd,osl⟩∧ax K cdv qual=true
 kp:av K (.ref f)=true
section
variable {P:Program}{w:World}{K:ae}{mg:Str->Option Value}{base:Heap}
theorem Fun.binds {x qual:Str}{st:Stmt}{f:Addr}{fd:FuncData}{ps:List Str}(F:Fun K x qual st f fd)
  (h:∀ (kV doc pm:Value) (an:Option Addr) (cdv ct:Value) (us:List Value),us.length=ps.length->bindArgs (a0 x qual (aQ st) (aP st) (aD st) .none kV doc pm an cdv ct) ⟨us,[]⟩=pure (ps.zip us)):nU K fd ps []:=by
 obtain⟨oc,od,kV,doc,pm,an,cdv,ct,osl,rfl,lk,hcd⟩:=F.ex;exact .all (h kV doc pm an cdv ct)
theorem aZ {x qual:Str}{st:Stmt}{f:Addr}{oc:Value}{od an:Option Addr}{osl:Array (Option Value)}{kV doc pm cdv ct:Value}(l:K.lookup f=some ⟨oc,od,.func (a0 x qual (aQ st) (aP st) (aD st) .none kV doc pm an cdv ct),osl⟩)
 (c:ax K cdv qual=true) (k:av K (.ref f)=true):Fun K x qual st f (a0 x qual (aQ st) (aP st) (aD st) .none kV doc pm an cdv ct):=⟨⟨oc,od,kV,doc,pm,an,cdv,ct,osl,rfl,l,c⟩,k⟩
end
theorem fV {A:Around}{k:Nat}(hr:gX k A):A.units+1<cLine:=fb (jp (by decide:1<=64) _) hr.units
section
variable {X:Cx}
theorem pv (i:Nat){x:Str}{pos:Pos}(hN:X.N[i]?=some x:=by rfl)(hv:Vis X.env.scope x:=by first | exact Or.inl rfl | exact Or.inr (Or.inl rfl) | exact Or.inr (Or.inr rfl))(hd:(x==("__debug__" : Str))=false:=by decide)
 (hcd:(x==("__classdict__" : Str))=false:=by decide):PE X (.Name x pos) (Uj i):=Sg hN hv hd hcd
end
theorem oF {A B:Prop}(h:B):if false=true then A else B:=by
 rw[if_neg ak];exact h
theorem rW {A B:Prop}(h:A):if true=true then A else B:=by
 rw[if_pos rfl];exact h
theorem kS {c A B:Prop}[Decidable c](h1:c->A)(h2:¬ c->B):if c then A else B:=by
 by_cases h:c
 ·rw[if_pos h]
  exact h1 h
 ·rw[if_neg h]
  exact h2 h
theorem Sa {c A B:Prop}[Decidable c](hc:c)(h:B):if (!decide c)=true then A else B:=by
 rw[decide_eq_true hc];exact oF h
def aJ (H H':Hp):Prop:=∀ b o,H b=some o->H' b=some o
theorem aJ.refl (H:Hp):aJ H H:=fun _ _ h=>h
theorem aJ.trans {H H1 H2:Hp}(a:aJ H H1)(b:aJ H1 H2):aJ H H2:=fun c o h=>b c o (a c o h)
theorem aJ.seq {K:ae}{H H':Hp}{a:Addr}{xs:List V}(e:aJ H H')(h:SqL K H a xs):SqL K H' a xs:=by
 rcases h with (h | ⟨o,h⟩) | h
 ·exact .inl (.inl (e _ _ h))
 ·exact .inl (.inr ⟨o,e _ _ h⟩)
 ·exact .inr h
end L2
namespace Wd
abbrev W:=List Nat
theorem Ya {a b c:W}(h:¬ b<a)(h':¬ c<b):¬ c<a:=fun hc=>rb.mpr (List.le_trans (rb.mp h) (rb.mp h')) hc
def rot (k:Nat)(w:W):W:=w.drop k++w.take k
theorem Gj {a b:W}(hl:a.length=b.length)(h:∀ i,i<a.length->a[i]?=b[i]?):a=b:=by
 apply kg ;intro i;by_cases hi:i<a.length
 ·exact h i hi
 ·rw[cp (by omega),cp (by omega)]
def xG (w:W):Nat->W
 | 0=>w
 | n+1=>if rot (n+1) w<xG w n then rot (n+1) w else xG w n
def lX (w:W):W:=xG w (w.length-1)
def rep (n:Nat)(l:W):W:=(kf n l).flatten
theorem mW (n:Nat)(l:W):rep (n+1) l=l++rep n l:=by unfold rep;rw[jq,kh]
theorem Cd (l:W):rep 0 l=[]:=rfl
theorem rC (l:W):rep 1 l=l:=by rw[mW,Cd,dv]
theorem lK (n:Nat)(l:W):(rep n l).length=n*l.length:=by
 induction n with
 | zero=>rw[Cd,nk];rfl
 | succ n ih=>rw[mW,aq,ih,Nat.succ_mul,ki]
theorem Pn {l:W}{n i:Nat}(h:i<n*l.length):(rep n l)[i]?=l[i % l.length]?:=by
 induction n generalizing i with
 | zero=>rw[nk] at h;omega
 | succ n ih =>
  rw[mW];rw[Nat.succ_mul] at h;by_cases hi:i<l.length
  ·rw[fq hi,ii hi]
  ·rw[fi (by omega),ih (by omega)]
   congr 1
   rw[<- Nat.mod_eq_sub_mod (by omega)]
end Wd
namespace Dt
abbrev Mx:=Nat->Nat->Int
def dF:Nat->(Nat->Int)->Int
 | 0,_=>0
 | n+1,f=>dF n f+f n
def sk (j k:Nat):Nat:=if k<j then k else k+1
def sg (j:Nat):Int:=if j % 2=0 then 1 else -1
def det:Nat->Mx->Int
 | 0,_=>1
 | n+1,A=>dF (n+1) fun j=>sg j*(A 0 j*det n fun i k=>A (i+1) (sk j k))
section
variable {n N p q i j k l:Nat}{A B:Mx}{f g:Nat->Int}{c m:Int}
theorem eW:∀ {n:Nat},(∀ j,j<n->f j=g j)->dF n f=dF n g
 | 0,_=>rfl
 | n+1,h=>by
  show dF n f+f n=dF n g+g n;rw[eW (n:=n) fun j hj=>h j (by omega),h n (by omega)]
theorem nS:∀ {n:Nat},dF n (fun j=>f j+c*g j)=dF n f+c*dF n g
 | 0=>by show (0:Int)=0+c*0;omega
 | n+1=>by
  show dF n (fun j=>f j+c*g j)+(f n+c*g n)=(dF n f+f n)+c*(dF n g+g n);rw[nS (n:=n),o0];omega
theorem kT:∀ {n:Nat},(∀ j,j<n->f j=0)->dF n f=0
 | 0,_=>rfl
 | n+1,h=>by
  show dF n f+f n=0;rw[kT (n:=n) fun j hj=>h j (by omega),h n (by omega)];rfl
theorem Ho {n:Nat}:dF n (fun j=>c*g j)=c*dF n g:=by
 have h:=nS (n:=n) (f:=fun _=>0) (c:=c) (g:=g);rw[kT (fun _ _=>rfl)] at h;rw[eW (g:=fun j=>0+c*g j) fun j _=>by omega,h];omega
theorem wI:∀ {n:Nat},(∀ j,0<j->j<n+1->f j=0)->dF (n+1) f=f 0
 | 0,_=>by show (0:Int)+f 0=f 0;omega
 | n+1,h=>by
  show dF (n+1) f+f (n+1)=f 0;rw[wI (n:=n) fun j h0 hj=>h j h0 (by omega),h (n+1) (by omega) (by omega)];omega
theorem Lq (h:k<n):sk j k<n+1:=by unfold sk;split <;> omega
theorem bN:∀ {n:Nat} {A B:Mx},(∀ i k,i<n->k<n->A i k=B i k)->det n A=det n B
 | 0,_,_,_=>rfl
 | n+1,A,B,h=>by
  refine eW fun j hj=>?_
  rw[h 0 j (by omega) hj,bN (n:=n) fun i k hi hk=>h (i+1) (sk j k) (by omega) (Lq hk)]
def cC (A:Mx)(i:Nat)(u:Nat->Int):Mx:=fun a k=>if a=i then u k else A a k
theorem lH {u:Nat->Int}:cC A i u i=u:=by
 funext k
 exact if_pos rfl
theorem jT {u:Nat->Int}{a:Nat}(h:a≠i):cC A i u a=A a:=by
 funext k
 exact if_neg h
theorem Fe {u:Nat->Int}:(fun a k=>cC A (i+1) u (a+1) (sk j k))=cC (fun a k=>A (a+1) (sk j k)) i fun k=>u (sk j k):=by
 funext a k
 unfold cC;by_cases h:a=i
 ·rw[if_pos h,if_pos (by omega)]
 ·rw[if_neg h,if_neg (by omega)]
theorem nT:∀ {n:Nat} {A:Mx} {i:Nat} {u v:Nat->Int},i<n->det n (cC A i fun k=>u k+c*v k)=det n (cC A i u)+c*det n (cC A i v)
 | n+1,A,0,u,v,_=>by
  have e:∀ w:Nat->Int,det (n+1) (cC A 0 w)=dF (n+1) fun j=>sg j*(w j*det n fun i k=>A (i+1) (sk j k)):=fun w=>by
   refine eW fun j _=>?_
   rw[lH,bN (n:=n) (A:=fun i k=>cC A 0 w (i+1) (sk j k)) (B:=fun i k=>A (i+1) (sk j k)) fun a k _ _=>by rw[jT (by omega)]]
  rw[e,e,e,<- nS];refine eW fun j _=>?_
  rw[Int.add_mul,o0]
  congr 1
  rw[dm c,<- dm (sg j) c,fz (sg j) c,dm c]
 | n+1,A,i+1,u,v,h=>by
  have e:∀ w:Nat->Int,det (n+1) (cC A (i+1) w)=dF (n+1) fun j=>sg j*(A 0 j*det n (cC (fun a k=>A (a+1) (sk j k)) i fun k=>w (sk j k))):=fun w=>by
   refine eW fun j _=>?_
   rw[Fe,jT (by omega)]
  rw[e,e,e,<- nS];refine eW fun j _=>?_
  rw[nT (n:=n) (i:=i) (u:=fun k=>u (sk j k)) (v:=fun k=>v (sk j k)) (by omega),o0,o0]
  congr 1
  rw[<- dm (A 0 j) c,fz (A 0 j) c,dm c,<- dm (sg j) c,fz (sg j) c,dm c]
theorem Gh:sg (j+1) = - sg j:=by
 unfold sg;by_cases h:j % 2=0
 ·rw[if_pos h,if_neg (by omega)]
 ·rw[if_neg h,if_pos (by omega)];rfl
theorem Vc:sg j*sg j=1:=by
 unfold sg;split <;> rfl
theorem dbl {F:Nat->Nat->Int}:∀ {N:Nat},(∀ j l,l<j->j<=N->F j l+F l (j-1)=0)->dF (N+1) (fun j=>dF N (F j))=0
 | 0,_=>rfl
 | N+1,h=>by
  have ih:=dbl (N:=N) fun j l hl hj=>h j l hl (by omega)
  have e1:dF (N+1) (fun j=>dF (N+1) (F j))=dF (N+1) (fun j=>dF N (F j)+1*F j N):=eW fun j _=>by
   show dF N (F j)+F j N=_;omega
  have e2:dF (N+1) (fun l=>F l N+1*F (N+1) l)=0:=kT fun l hl=>by
   have:=h (N+1) l (by omega) (by omega)
   rw[l7] at this;omega
  rw[nS] at e1 e2;show dF (N+1) (fun j=>dF (N+1) (F j))+dF (N+1) (F (N+1))=0;have e3:dF (N+1) (F (N+1))=dF (N+1) fun l=>F (N+1) l:=rfl
  rw[e1,ih];omega
theorem Vr (h:l<j):sk j (sk l k)=sk l (sk (j-1) k):=by
 have a:∀ x y:Nat,sk x y=if y<x then y else y+1:=fun _ _=>rfl
 by_cases h1:k<l
 ·rw[a l k,if_pos h1,a j k,if_pos (by omega),a (j-1) k,if_pos (by omega),a l k,if_pos h1]
 ·rw[a l k,if_neg h1]
  by_cases h2:k+1<j
  ·rw[a j,if_pos h2,a (j-1) k,if_pos (by omega),a l k,if_neg h1]
  ·rw[a j,if_neg h2,a (j-1) k,if_neg (by omega),a l,if_neg (by omega)]
theorem Wz (h:∀ k,k<n+2->A 0 k=A 1 k):det (n+2) A=0:=by
 have e:det (n+2) A=dF (n+2) fun j=>dF (n+1) fun l=>sg j*(A 0 j*(sg l*(A 1 (sk j l)*det n fun i k=>A (i+2) (sk j (sk l k))))):=by
  refine eW fun j _=>?_
  show sg j*(A 0 j*dF (n+1) fun l=>sg l*(A 1 (sk j l)*det n fun i k=>A (i+2) (sk j (sk l k))))=_;rw[<- Ho,<- Ho]
 rw[e];refine dbl fun j l hl hj=>?_
 have s1:sk j l=l:=by unfold sk;rw[if_pos hl]
 have s2:sk l (j-1)=j:=by unfold sk;rw[if_neg (by omega)];omega
 have s3:(fun i k=>A (i+2) (sk l (sk (j-1) k)))=fun i k=>A (i+2) (sk j (sk l k)):=by
  funext i k
  rw[Vr hl]
 rw[s1,s2,s3,<- h j (by omega),<- h l (by omega)];have s4:sg j = - sg (j-1):=by rw[<- Gh,gt (by omega)]
 rw[s4];generalize det n (fun i k=>A (i+2) (sk j (sk l k)))=d
 grind
theorem alt:∀ {n i:Nat} {A:Mx},i+1<n->(∀ k,k<n->A i k=A (i+1) k)->det n A=0
 | n+2,0,A,_,h=>Wz h
 | n+1,i+1,A,hi,h=>by
  refine kT fun j _=>?_
  rw[alt (n:=n) (i:=i) (A:=fun a k=>A (a+1) (sk j k)) (by omega) fun k hk=>h (sk j k) (Lq hk),ga,ga]
def tr (p i:Nat):Nat:=if i=p then p+1 else if i=p+1 then p else i
theorem oG {u v:Nat->Int}(h:i≠j):cC (cC A i u) j v=cC (cC A j v) i u:=by
 funext a k
 unfold cC;by_cases h1:a=i
 ·rw[if_neg (by omega),if_pos h1,if_pos h1]
 ·by_cases h2:a=j
  ·rw[if_pos h2,if_neg h1,if_pos h2]
  ·rw[if_neg h2,if_neg h1,if_neg h1,if_neg h2]
theorem zE {u v:Nat->Int}(h:i<n):det n (cC A i fun k=>u k+v k)=det n (cC A i u)+det n (cC A i v):=by
 have:=nT (c:=1) (A:=A) (u:=u) (v:=v) h
 rw[im] at this;rw[<- this]
 congr 2
 funext k
 omega
theorem jP (u:Nat->Int)(h:∀ k,u k=A i k):det n (cC A i u)=det n A:=bN fun a k _ _=>by
 unfold cC;by_cases e:a=i
 ·rw[if_pos e,h,e]
 ·rw[if_neg e]
theorem swap (h:p+1<n):det n (fun i k=>A (tr p i) k) = - det n A:=by
 have D:∀ x y:Nat->Int,∃ d,det n (cC (cC A p x) (p+1) y)=d:=fun _ _=>⟨_,rfl⟩
 have z:∀ w:Nat->Int,det n (cC (cC A p w) (p+1) w)=0:=fun w=>alt h fun k _=>by rw[jT (by omega),lH,lH]
 have l2:∀ x y y':Nat->Int,det n (cC (cC A p x) (p+1) fun k=>y k+y' k)=det n (cC (cC A p x) (p+1) y)+det n (cC (cC A p x) (p+1) y'):=fun x y y'=>zE h
 have l1:∀ x x' y:Nat->Int,det n (cC (cC A p fun k=>x k+x' k) (p+1) y)=det n (cC (cC A p x) (p+1) y)+det n (cC (cC A p x') (p+1) y):=fun x x' y=>by
  rw[oG (by omega),oG (u:=x) (by omega),oG (u:=x') (by omega)];exact zE (by omega)
 have e0:=z fun k=>A p k+A (p+1) k
 rw[l2,l1,l1,z,z] at e0;have e1:det n (cC (cC A p (A p)) (p+1) (A (p+1)))=det n A:=by
  rw[jP _ (fun k=>by rw[jT (by omega)]),jP _ (fun k=>rfl)]
 have e2:det n (cC (cC A p (A (p+1))) (p+1) (A p))=det n fun i k=>A (tr p i) k:=by
  refine bN fun a k _ _=>?_
  unfold cC tr;by_cases h1:a=p+1
  ·rw[if_pos h1,if_neg (by omega),if_pos h1]
  ·rw[if_neg h1]
   by_cases h2:a=p
   ·rw[if_pos h2,if_pos h2]
   ·rw[if_neg h2,if_neg h2,if_neg h1]
 rw[e1,e2] at e0;omega
theorem rD:∀ (d:Nat) {i:Nat} {A:Mx},i+1+d<n->(∀ k,k<n->A i k=A (i+1+d) k)->det n A=0
 | 0,i,A,hi,h=>alt hi h
 | d+1,i,A,hi,h=>by
  have h2:=rD d (i:=i) (A:=fun a k=>A (tr (i+1+d) a) k) (by omega) fun k hk=>by
   show A (tr (i+1+d) i) k=A (tr (i+1+d) (i+1+d)) k;unfold tr;rw[if_neg (by omega),if_neg (by omega),if_pos rfl];exact h k hk
  rw[swap (by omega)] at h2;omega
theorem Ug {t:Int}(h0:0<i)(h:i<n):det n (cC A i fun k=>A i k-t*A 0 k)=det n A:=by
 have e:=nT (c:=-t) (A:=A) (u:=A i) (v:=A 0) h;rw[jP (A i) fun _=>rfl,rD (i-1) (i:=0) (A:=cC A i (A 0)) (by omega) fun k _=>?_,ga,qk] at e
 ·rw[<- e]
  congr 2
  funext k
  rw[rc];omega
 ·rw[jT (by omega),show 0+1+(i-1)=i by omega,lH]
theorem Nk {t:Nat->Int}:∀ {m:Nat},m<=n->det n (fun i k=>if 0<i∧i<m then A i k-t i*A 0 k else A i k)=det n A
 | 0,_=>bN fun i k _ _=>if_neg (by omega)
 | m+1,hm=>by
  rw[<- Nk (m:=m) (by omega)];by_cases h0:m=0
  ·subst h0
   exact bN fun i k _ _=>by rw[if_neg (by omega),if_neg (by omega)]
  ·rw[<- Ug (A:=fun i k=>if 0<i∧i<m then A i k-t i*A 0 k else A i k) (i:=m) (t:=t m) (by omega) (by omega)]
   refine bN fun i k _ _=>?_
   unfold cC
   dsimp only
   by_cases h1:i=m
   ·subst h1
    rw[if_pos rfl,if_pos (by omega),if_neg (by omega),if_neg (by omega)]
   ·rw[if_neg h1]
    by_cases h2:0<i∧i<m
    ·rw[if_pos h2,if_pos (by omega)]
    ·rw[if_neg h2,if_neg (by omega)]
theorem Uh:∀ {n:Nat} {A:Mx},(∀ i,i<n+1->A i 0=0)->det (n+1) A=0
 | n,A,h=>by
  refine kT fun j hj=>?_
  cases j with
  | zero=>rw[h 0 (by omega),nn,ga]
  | succ j =>
   cases n with
   | zero=>omega
   | succ n=>rw[Uh (n:=n) (A:=fun i k=>A (i+1) (sk (j+1) k)) fun i hi=>h (i+1) (by omega),ga,ga]
theorem Wj (h:∀ i,i<n->A (i+1) 0=0):det (n+1) A=A 0 0*det n fun i k=>A (i+1) (k+1):=by
 show dF (n+1) _=_;rw[wI fun j h0 hj=>?_]
 ·show sg 0*(A 0 0*det n fun i k=>A (i+1) (sk 0 k))=_
  rw[show sg 0=1 from rfl,im];rfl
 ·cases n with
  | zero=>omega
  | succ n =>
   rw[Uh (A:=fun i k=>A (i+1) (sk j k)) fun i hi=>by
    show A (i+1) (sk j 0)=0;rw[show sk j 0=0 by unfold sk;rw[if_pos h0]];exact h i hi,ga,ga]
def Cg (m a b:Int):Prop:=m∣a-b
theorem Cg.refl (a:Int):Cg m a a:=by unfold Cg;rw[Int.sub_self];exact Int.dvd_zero m
theorem Cg.symm {a b:Int}(h:Cg m a b):Cg m b a:=by
 unfold Cg at *;rw[<- Int.neg_sub];exact o6.mpr h
theorem Cg.trans {a b d:Int}(h:Cg m a b)(g:Cg m b d):Cg m a d:=by
 unfold Cg at *;rw[show a-d=(a-b)+(b-d) by omega];exact re h g
theorem Cg.add {a b a' b':Int}(h:Cg m a b)(g:Cg m a' b'):Cg m (a+a') (b+b'):=by
 unfold Cg at *;rw[show a+a'-(b+b')=(a-b)+(a'-b') by omega];exact re h g
theorem Cg.mul {a b a' b':Int}(h:Cg m a b)(g:Cg m a' b'):Cg m (a*a') (b*b'):=by
 unfold Cg at *;rw[show a*a'-b*b'=(a-b)*a'+b*(a'-b') by rw[mm,Int.mul_sub];omega];exact re (mz h) (mq g)
theorem Cg.sub {a b a' b':Int}(h:Cg m a b)(g:Cg m a' b'):Cg m (a-a') (b-b'):=by
 unfold Cg at *;rw[show a-a'-(b-b')=(a-b)-(a'-b') by omega];exact Int.dvd_sub h g
theorem Cg.neg {a b:Int}(h:Cg m a b):Cg m (-a) (-b):=by
 have:=(Cg.refl (m:=m) 0).sub h
 rwa [lv,lv] at this
theorem pE (a:Int):Cg m (a % m) a:=by
 unfold Cg;rw[Int.emod_def];rw[show a-m*(a/m)-a = -(m*(a/m)) by omega];exact o6.mpr (ql ..)
theorem Od:∀ {n:Nat},(∀ j,j<n->Cg m (f j) (g j))->Cg m (dF n f) (dF n g)
 | 0,_=>Cg.refl _
 | n+1,h=>(Od (n:=n) fun j hj=>h j (by omega)).add (h n (by omega))
theorem yJ:∀ {n:Nat} {A B:Mx},(∀ i k,i<n->k<n->Cg m (A i k) (B i k))->Cg m (det n A) (det n B)
 | 0,_,_,_=>Cg.refl _
 | n+1,A,B,h=>Od fun j hj=>(Cg.refl _).mul ((h 0 j (by omega) hj).mul (yJ fun i k hi hk=>h (i+1) (sk j k) (by omega) (Lq hk)))
theorem Lj {t:Nat->Int}(h:∀ i,i<n->m∣A (i+1) 0-t i*A 0 0):Cg m (det (n+1) A) (A 0 0*det n fun i k=>A (i+1) (k+1)-t i*A 0 (k+1)):=by
 rw[<- Nk (n:=n+1) (A:=A) (t:=fun i=>t (i-1)) (m:=n+1) (af _)];refine (yJ (B:=fun i k=>if i=0 then A 0 k else if k=0 then 0 else A i k-t (i-1)*A 0 k) fun i k hi hk=>?_).trans ?_
 ·by_cases h0:i=0
  ·subst h0
   rw[if_neg (by omega),if_pos rfl];exact Cg.refl _
  ·rw[if_pos (by omega),if_neg h0]
   by_cases hk0:k=0
   ·subst hk0
    rw[if_pos rfl]
    have:=h (i-1) (by omega)
    rw[show i-1+1=i by omega] at this;unfold Cg;rw[lw];exact this
   ·rw[if_neg hk0]
    exact Cg.refl _
 ·rw[Wj fun i _=>by rw[if_neg (by omega),if_pos rfl]]
  rw[if_pos rfl];have e:det n (fun i k=>if i+1=0 then A 0 (k+1) else if k+1=0 then 0 else A (i+1) (k+1)-t (i+1-1)*A 0 (k+1))=det n fun i k=>A (i+1) (k+1)-t i*A 0 (k+1):=bN fun i k _ _=>by rw[if_neg (by omega),if_neg (by omega)];rfl
  rw[e];exact Cg.refl _
def mv (p:Nat)(A:Mx):Mx:=fun i k=>if i=0 then A p k else if i<=p then A (i-1) k else A i k
theorem Ko:∀ {p:Nat} {A:Mx},p<n->det n (mv p A)=sg p*det n A
 | 0,A,h=>by
  rw[show sg 0=1 from rfl,im];exact bN fun i k _ _=>by
   unfold mv;by_cases h0:i=0
   ·rw[if_pos h0,h0]
   ·rw[if_neg h0,if_neg (by omega)]
 | p+1,A,h=>by
  have ih:=Ko (p:=p) (A:=fun i k=>A (tr p i) k) (by omega);rw[swap h] at ih;rw[Gh,rc,<- Int.mul_neg,<- ih];refine bN fun i k _ _=>?_
  unfold mv tr
  dsimp only
  by_cases h0:i=0
  ·rw[if_pos h0,if_pos h0,if_pos rfl]
  ·rw[if_neg h0,if_neg h0]
   by_cases h1:i<=p
   ·rw[if_pos (by omega),if_pos h1,if_neg (by omega),if_neg (by omega)]
   ·by_cases h2:i=p+1
    ·subst h2
     rw[if_pos (by omega),if_neg (by omega),if_neg (by omega),if_pos rfl];rfl
    ·rw[if_neg (by omega),if_neg h1,if_neg (by omega),if_neg h2]
end
def sN:Nat->(Nat->Nat)->Nat
 | 0,_=>0
 | n+1,f=>sN n f+f n
def pN:Nat->(Nat->Nat)->Nat
 | 0,_=>1
 | n+1,f=>f 0*pN n fun i=>f (i+1)
section
variable {n N p q i j k l:Nat}{A B:Mx}{f g:Nat->Nat}{c m:Int}
theorem Lm:∀ {n:Nat},(∀ j,j<n->f j<=g j)->sN n f<=sN n g
 | 0,_=>af _
 | n+1,h=>sf (Lm fun j hj=>h j (by omega)) (h n (by omega))
theorem Fk {c:Nat}:∀ {n:Nat},sN n (fun j=>f j*c)=sN n f*c
 | 0=>by show 0=0*c;omega
 | n+1=>by
  show sN n (fun j=>f j*c)+f n*c=(sN n f+f n)*c;rw[Fk (n:=n),gr]
theorem Rw:∀ {n:Nat} {f g:Nat->Nat},(∀ j,j<n->f j<=g j)->pN n f<=pN n g
 | 0,_,_,_=>af _
 | n+1,f,g,h=>fj (h 0 (by omega)) (Rw fun j hj=>h (j+1) (by omega))
theorem Gv {f:Nat->Int}:∀ {n:Nat},(dF n f).natAbs<=sN n fun j=>(f j).natAbs
 | 0=>af _
 | n+1=>by
  have:=Gv (f:=f) (n:=n)
  have h2:=Int.natAbs_add_le (dF n f) (f n);show (dF n f+f n).natAbs<=sN n (fun j=>(f j).natAbs)+(f n).natAbs;omega
theorem Rz {f:Nat->Nat}{j:Nat}:∀ {n:Nat},sN n (fun k=>f (sk j k))<=sN (n+1) f
 | 0=>b8 _
 | n+1=>by
  show sN n (fun k=>f (sk j k))+f (sk j n)<=sN (n+1) f+f (n+1);by_cases h:n<j
  ·have e:∀ m,m<=n+1->sN m (fun k=>f (sk j k))=sN m f:=fun m=>by
    induction m with
    | zero=>intro _;rfl
    | succ m ih =>
     intro hm;show sN m (fun k=>f (sk j k))+f (sk j m)=sN m f+f m;rw[ih (by omega),show sk j m=m by unfold sk;rw[if_pos (by omega)]]
   have:=e (n+1) (af _)
   have e2:sN (n+1) (fun k=>f (sk j k))=sN n (fun k=>f (sk j k))+f (sk j n):=rfl;omega
  ·have:=Rz (j:=j) (f:=f) (n:=n)
   rw[show sk j n=n+1 by unfold sk;rw[if_neg h]];omega
theorem Tn:(sg j).natAbs=1:=by unfold sg;split <;> rfl
theorem wA:∀ {n:Nat} {A:Mx},(det n A).natAbs<=pN n fun i=>sN n fun k=>(A i k).natAbs
 | 0,_=>af _
 | n+1,A=>by
  refine a5 Gv ?_;show _<=sN (n+1) (fun k=>(A 0 k).natAbs)*pN n fun i=>sN (n+1) fun k=>(A (i+1) k).natAbs
  rw[<- Fk];refine Lm fun j _=>?_
  rw[l8,l8,Tn,gd];exact ie _ (a5 wA (Rw fun i _=>Rz (f:=fun k=>(A (i+1) k).natAbs)))
def ent (M:List (List Int)):Mx:=fun i k=>(M.getD i []).getD k 0
theorem wM {α:Type}{M:List α}{d:α}(i:Nat):(M.eraseIdx p).getD i d=M.getD (if i<p then i else i+1) d:=by
 rw[aj,aj,kj];split <;> rfl
theorem Pu {M:List (List Int)}{u:List Int->List Int}(h:i<M.length):(M.map u).getD i []=u (M.getD i []):=by
 rw[aj,aj,al,aa h];rfl
theorem elim {M:List (List Int)}{top:List Int}{back:Int}{t:List Int->Int}{low:List Int->List Int}(hp:p<n+1)(hM:M.length=n+1)(htop:∀ k,k<n+1->Cg m (top.getD k 0) ((M.getD p []).getD k 0))(hb:Cg m (top.getD 0 0*back) 1)
  (ht:∀ r∈M,Cg m (t r) (r.getD 0 0*back)) (hlow:∀ r∈M,∀ k,k<n->(low r).getD k 0=r.getD (k+1) 0-t r*top.getD (k+1) 0):Cg m (det (n+1) (ent M)) (sg p*(top.getD 0 0*det n (ent ((M.eraseIdx p).map low)))):=by
 have e1:det (n+1) (ent M)=sg p*det (n+1) (mv p (ent M)):=by
  rw[Ko hp,<- dm,Vc,im]
 have mem:∀ i,i<n->(M.eraseIdx p).getD i []∈M:=fun i hi=>by
  rw[wM];split
  ·rw[aj,aa (by omega)]
   exact cz _
  ·rw[aj,aa (by omega)]
   exact cz _
 have row:∀ i k,i<n->mv p (ent M) (i+1) k=((M.eraseIdx p).getD i []).getD k 0:=fun i k hi=>by
  unfold mv ent;rw[if_neg (by omega),wM];by_cases h:i<p
  ·rw[if_pos (by omega),if_pos h]
   rfl
  ·rw[if_neg (by omega),if_neg h]
 rw[e1];refine (Cg.refl _).mul ?_;refine (yJ (B:=fun i k=>if i=0 then top.getD k 0 else mv p (ent M) i k) fun i k hi hk=>?_).trans ?_
 ·by_cases h0:i=0
  ·subst h0
   rw[if_pos rfl];exact (htop k hk).symm
  ·rw[if_neg h0]
   exact Cg.refl _
 ·refine (Lj (t:=fun i=>t ((M.eraseIdx p).getD i [])) fun i hi=>?_).trans ?_
  ·rw[if_neg (by omega),if_pos rfl,row i 0 hi]
   have h1:=ht _ (mem i hi);have h2:=(h1.mul (Cg.refl (top.getD 0 0))).trans (b:=((M.eraseIdx p).getD i []).getD 0 0*back*top.getD 0 0) (d:=((M.eraseIdx p).getD i []).getD 0 0*1) (by
    rw[dm,fz back];exact (Cg.refl _).mul hb)
   rw[ld] at h2;exact h2.symm
  ·rw[if_pos rfl]
   refine (Cg.refl _).mul ?_;rw[bN (B:=ent ((M.eraseIdx p).map low)) fun i k hi hk=>?_]
   ·exact Cg.refl _
   ·rw[if_neg (by omega),if_pos rfl,row i (k+1) hi]
    unfold ent;rw[Pu (by rw[g8];split <;> omega),hlow _ (mem i hi) k hk]
theorem Wn {M:List (List Int)}(h:∀ r∈M,m∣r.getD 0 0)(hM:M.length=n+1):Cg m (det (n+1) (ent M)) 0:=by
 rw[<- Uh (n:=n) (A:=fun i k=>if k=0 then 0 else ent M i k) fun i _=>if_pos rfl];refine yJ fun i k hi hk=>?_
 by_cases hk0:k=0
 ·subst hk0
  rw[if_pos rfl];unfold Cg ent;rw[lw];refine h _ ?_;rw[aj,aa (by omega)];exact cz _
 ·rw[if_neg hk0]
  exact Cg.refl _
theorem Qg:∀ {r:List Int} {n:Nat},r.length=n->(((r.map fun x=>if x<0 then -x else x).sum:Int))=((sN n fun k=>(r.getD k 0).natAbs:Nat):Int):=by
 intro r
 induction r with
 | nil=>intro n h;subst h;rfl
 | cons x r ih =>
  intro n h;subst h;have key:∀ (n:Nat) (f:Nat->Nat),sN (n+1) f=f 0+sN n fun k=>f (k+1):=fun n=>by
   induction n with
   | zero=>intro f;show 0+f 0=f 0+0;omega
   | succ n ih2 =>
    intro f;show sN (n+1) f+f (n+1)=f 0+(sN n (fun k=>f (k+1))+f (n+1));rw[ih2];omega
  rw[am,cg,ih rfl,a9,key];show (if x<0 then -x else x)+_=(((x.natAbs+sN r.length fun k=>(r.getD k 0).natAbs:Nat)):Int);rw[gi]
  congr 1
  split <;> omega
end
end Dt
namespace Wd
def fL (t:W)(n i:Nat):W:=(cf n).map fun k=>t.getD ((i+k) % t.length) 0
theorem sH (t:W)(n i:Nat):(fL t n i).length=n:=by rw[fL,aR,dj]
theorem uE {t:W}{n i k:Nat}(h:k<n)(ht:0<t.length):(fL t n i)[k]?=t[(i+k) % t.length]?:=by
 rw[fL,al,List.getElem?_range h];show some (t.getD ((i+k) % t.length) 0)=_;rw[aj,aa (jf _ ht)];rfl
theorem tZ {t:W}{n i:Nat}(h:i+n<=t.length):(t.drop i).take n=fL t n i:=by
 apply Gj
 ·rw[cb,b9,sH]
  omega
 ·intro k hk
  rw[cb,b9] at hk;rw[js (by omega),jz,uE (by omega) (by omega),ii (by omega)]
theorem Qu {t:W}{n i c:Nat}(h:i+n<=c*t.length)(ht:0<t.length):((rep c t).drop i).take n=fL t n i:=by
 apply Gj
 ·rw[cb,b9,lK,sH]
  omega
 ·intro k hk
  rw[cb,b9,lK] at hk;rw[js (by omega),jz,uE (by omega) ht,Pn (by omega)]
def fS (t:W)(n:Nat):List W:=(cf (t.length+1-n)).map (fL t n)
def Lu (t:W)(n:Nat):List W:=(cf t.length).map (fL t n)
def win (t:W)(n:Nat)(b:Bool):List W:=if b=true then Lu t n else fS t n
theorem Ac (t:W)(n:Nat):(fS t n).length=t.length+1-n:=by rw[fS,aR,dj]
theorem gW:∀ {xs ys:List W},xs.Perm ys->xs.Pairwise (fun a b=>¬ b<a)->ys.Pairwise (fun a b=>¬ b<a)->xs=ys:=by
 intro xs ys h h1 h2;refine List.Perm.eq_of_pairwise ?_ h1 h2 h;intro a b _ _ z1 z2;exact le a b z2 z1
end Wd
namespace Hg
variable {bg en:List Nat->List Nat}
inductive Rch (bg en:List Nat->List Nat)(ms:List (List Nat))(p:List Nat):List Nat->Prop
 | self:Rch bg en ms p p
 | fw {w:List Nat}:w∈ms->Rch bg en ms p (bg w)->Rch bg en ms p (en w)
 | bw {w:List Nat}:w∈ms->Rch bg en ms p (en w)->Rch bg en ms p (bg w)
def Cl (bg en:List Nat->List Nat)(ls:List (List Nat))(w:List Nat):Prop:=bg w∈ls↔en w∈ls
theorem Rch.inside {ms ls:List (List Nat)}{p z:List Nat}(hp:p∈ls)(hc:∀ w∈ms,Cl bg en ls w)(h:Rch bg en ms p z):z∈ls:=by
 induction h with
 | self=>exact hp
 | fw hw _ ih=>exact (hc _ hw).mp ih
 | bw hw _ ih=>exact (hc _ hw).mpr ih
def oT (ls:List (List Nat))(t:List Nat):List (List Nat):=if t∈ls then ls else ls++[t]
theorem lB {ls:List (List Nat)}{t z:List Nat}:z∈oT ls t↔z∈ls∨z=t:=by
 unfold oT;split
 ·rename_i h
  exact⟨.inl,fun g=>g.elim id fun e=>e▸h⟩
 ·rw[bj,az]
theorem Ge {ls:List (List Nat)}{t:List Nat}(h:ls.Nodup):(oT ls t).Nodup:=by
 unfold oT;split
 ·exact h
 ·rename_i g
  refine dw.mpr ⟨h,by simp,fun a ha b hb e=>?_⟩;rw[az] at hb;exact g (hb▸e▸ha)
theorem Bl (ls:List (List Nat))(t:List Nat):ls <+: oT ls t:=by
 unfold oT;split
 ·exact q5 _
 ·exact List.prefix_append ..
theorem zR (ls:List (List Nat))(t:List Nat):(oT ls t).length<=ls.length+1:=by
 unfold oT;split
 ·omega
 ·simp
structure Pass (bg en:List Nat->List Nat)(ms:List (List Nat))(p:List Nat)(fs:List (List Nat))(i:Nat)(ls:List (List Nat)):Prop where
 nd:ls.Nodup
 pre:fs <+: ls
 rch:∀ z∈ls,Rch bg en ms p z
 cl:ls.length=fs.length->∀ w∈ms.take i,Cl bg en fs w
theorem Pass.zero {ms fs:List (List Nat)}{p:List Nat}(nd:fs.Nodup)(rch:∀ z∈fs,Rch bg en ms p z):Pass bg en ms p fs 0 fs:=⟨nd,q5 _,rch,fun _ w hw=>by rw[jg] at hw;cases hw⟩
theorem Ci {ms:List (List Nat)}{i:Nat}{w v:List Nat}(h:ms[i]?=some w)(hv:v∈ms.take (i+1)):v∈ms.take i∨v=w:=by
 rw[cn,h,bj] at hv;rcases hv with z | z
 ·exact .inl z
 ·exact .inr (by simpa using z)
theorem Pass.yes {ms fs ls:List (List Nat)}{p w:List Nat}{i:Nat}(h:Pass bg en ms p fs i ls)(hw:ms[i]?=some w)(hi:bg w∈ls∨en w∈ls):Pass bg en ms p fs (i+1) (oT (oT ls (bg w)) (en w)):=by
 have hm:=ay hw;have p1:=(Bl ls (bg w)).trans (Bl (oT ls (bg w)) (en w));refine⟨Ge (Ge h.nd),h.pre.trans p1,fun z hz=>?_,fun e v hv=>?_⟩
 ·rw[lB,lB] at hz
  have hb:Rch bg en ms p (bg w)∧Rch bg en ms p (en w):=by
   rcases hi with g | g
   ·exact⟨h.rch _ g,.fw hm (h.rch _ g)⟩
   ·exact⟨.bw hm (h.rch _ g),h.rch _ g⟩
  rcases hz with (z | rfl) | rfl
  ·exact h.rch _ z
  ·exact hb.1
  ·exact hb.2
 ·have l1:=h.pre.length_le
  have l2:=p1.length_le;have e1:ls.length=fs.length:=by omega
  rcases Ci hw hv with g | rfl
  ·exact h.cl e1 v g
  ·have q1:=h.pre.eq_of_length (by omega)
   have q2:=p1.eq_of_length (by omega);subst q1;have m1:bg v∈fs:=by rw[q2,lB,lB];exact .inl (.inr rfl)
   have m2:en v∈fs:=by rw[q2,lB];exact .inr rfl
   exact⟨fun _=>m2,fun _=>m1⟩
theorem Pass.no {ms fs ls:List (List Nat)}{p w:List Nat}{i:Nat}(h:Pass bg en ms p fs i ls)(hw:ms[i]?=some w)(h1:¬ bg w∈ls)(h2:¬ en w∈ls):Pass bg en ms p fs (i+1) ls:=by
 refine⟨h.nd,h.pre,h.rch,fun e v hv=>?_⟩;rcases Ci hw hv with g | rfl
 ·exact h.cl e v g
 ·exact⟨fun z=>absurd (h.pre.subset z) h1,fun z=>absurd (h.pre.subset z) h2⟩
def Ui (bg en:List Nat->List Nat)(ms:List (List Nat)):List (List Nat):=ms.map bg++ms.map en
theorem Cv {ms:List (List Nat)}{p z:List Nat}(h:Rch bg en ms p z):z=p∨z∈Ui bg en ms:=by
 cases h with
 | self=>exact .inl rfl
 | fw hw _=>exact .inr (bj.mpr (.inr (gm hw)))
 | bw hw _=>exact .inr (bj.mpr (.inl (gm hw)))
theorem kP {α:Type}[BEq α][LawfulBEq α]:∀ {ls ms:List α},ls.Nodup->(∀ z∈ls,z∈ms)->ls.length<=ms.length
 | [],_,_,_=>b8 _
 | a::ls,ms,h,hs=>by
  rw[ck] at h;have ha:=hs a (ar ..);have ih:=kP (ls:=ls) (ms:=ms.erase a) h.2 fun z hz=>(List.mem_erase_of_ne (fun e:z=a=>h.1 (e▸hz))).mpr (hs z (ah _ hz))
  have:=List.length_erase_of_mem ha
  have:=ei ha
  rw[a9];omega
theorem Md {ms ls:List (List Nat)}{p:List Nat}(h:ls.Nodup)(hr:∀ z∈ls,Rch bg en ms p z):ls.length<=2*ms.length+1:=by
 have:=kP (ms:=p::Ui bg en ms) h fun z hz=>aw.mpr (Cv (hr z hz))
 unfold Ui at this;rw[a9,aq,aR,aR] at this;omega
end Hg
namespace Dt
def dI (N:Nat):Prop:=1<N∧∀ x,0<x->x<N->ig x N=1
section
variable {N F b d e n:Nat}
def pm (N:Nat):Nat->Nat->Nat->Nat
 | 0,_,_=>1 % N
 | f+1,b,e=>if e=0 then 1 % N else if e % 2=1 then b*pm N f (b*b % N) (e/2) % N else pm N f (b*b % N) (e/2)
theorem Ar (N b e:Nat):(b*b % N) ^ e % N=b ^ (2*e) % N:=by
 rw[<- rf,jh,Nat.pow_two]
theorem Fy:∀ (f b e:Nat),e<2 ^ f->pm N f b e=b ^ e % N
 | 0,b,e,h=>by
  obtain rfl:e=0:=by simpa using h
  rfl
 | f+1,b,e,h=>by
  unfold pm;by_cases h0:e=0
  ·rw[if_pos h0,h0,Nat.pow_zero]
  ·rw[if_neg h0]
   have ih:=Fy f (b*b % N) (e/2) (by rw[kl] at h;omega);by_cases h1:e % 2=1
   ·rw[if_pos h1,ih,ji,rg,Ar,<- ji,c9,<- kl]
    congr 2
    omega
   ·rw[if_neg h1,ih,Ar]
    congr 2
    omega
theorem Pl {b d:Nat}(hd:1<d){x y:Nat}(hx:b ^ x % d=1)(hy:b ^ y % d=1):b ^ (y % x) % d=1:=by
 have e:b ^ y=(b ^ x) ^ (y/x)*b ^ (y % x):=by rw[<- jh,<- ip,lj]
 rw[e,ji,rf,hx,Nat.one_pow,ii hd,gd,rg] at hy;exact hy
theorem Ox {b d:Nat}(hd:1<d):∀ (x y:Nat),b ^ x % d=1->b ^ y % d=1->b ^ (ig x y) % d=1:=fun x y=>by
 induction x,y using Nat.gcd.induction with
 | H0 y=>intro _ h;rw[Nat.gcd_zero_left];exact h
 | H1 x y hx ih =>
  intro h1 h2;rw[o7];exact ih (Pl hd h1 h2) h1
theorem pW (rs:List Nat)(hN:1<N)(hF:N<=F*F)(h1:b ^ F % N=1)(h2:∀ r∈rs,ig (b ^ (F/r) % N+(N-1)) N=1)(h3:∀ g,g∣F->g<F->∃ r∈rs,g∣F/r):dI N:=by
 have key:∀ d,d∣N->1<d->F<d:=fun d hdN hd=>by
  have hdF:b ^ F % d=1:=by
   have:=pz (b ^ F) hdN
   rw[h1,ii hd] at this;exact this.symm
  have no:∀ e,0<e->e<F->b ^ e % d≠1:=fun e he heF hc=>by
   have hg:=Ox hd e F hc hdF;have hgF:=ja e F;have hge:ig e F<=e:=rl F he;obtain⟨r,hr,hgr⟩:=h3 _ hgF (by omega);obtain⟨q,hq⟩:=hgr;have hFr:b ^ (F/r) % d=1:=by rw[hq,jh,rf,hg,Nat.one_pow,ii hd]
   have hdd:d∣b ^ (F/r) % N+(N-1):=by
    have e1:b ^ (F/r) % N % d=1:=by rw[pz _ hdN];exact hFr
    refine iu ?_;have e2:(b ^ (F/r) % N+(N-1)) % d=(1+(N-1)) % d:=by rw[Nat.add_mod,e1,Nat.add_mod_mod]
    rw[e2,show 1+(N-1)=N by omega];exact Nat.mod_eq_zero_of_dvd hdN
   have:=Nat.dvd_gcd hdd hdN
   rw[h2 r hr] at this
   have:=tm (by omega) this
   omega
  have inj:((cf F).map fun i=>b ^ i % d).Nodup:=by
   refine dy.mpr (gb (fun {i j} hi hj hij he=>?_) iw);have hj:j<F:=cx.mp hj;refine no (j-i) (by omega) (by omega) ?_;have a1:b ^ (F-i)*b ^ i % d=1:=by rw[<- ip,gt (by omega)];exact hdF
   have a2:b ^ (F-i)*b ^ j % d=b ^ (j-i) % d:=by
    rw[<- ip,show F-i+j=F+(j-i) by omega,ip,ji,hdF,gd,rg]
   rw[<- a2,ji,<- he,<- ji];exact a1
  have sub:∀ z∈(cf F).map (fun i=>b ^ i % d),z∈List.range' 1 (d-1):=fun z hz=>by
   obtain⟨i,hi,rfl⟩:=au.mp hz;have hi:i<F:=cx.mp hi;rw[List.mem_range'_1];have hlt:=jf (b ^ i) (show d>0 by omega);have hnz:b ^ i % d≠0:=fun z=>by
    have a1:b ^ (F-i)*b ^ i % d=1:=by rw[<- ip,gt (by omega)];exact hdF
    rw[ji,z,lx,Nat.zero_mod] at a1;cases a1
   omega
  have:=Hg.kP inj sub
  rw[aR,dj,List.length_range'] at this;omega
 refine⟨hN,fun x h0 hx=>?_⟩;refine b6 fun hg=>?_
 have hgN:=ja x N;have hgx:ig x N<=x:=rl N h0;have hgp:0<ig x N:=Nat.gcd_pos_of_pos_left N h0;obtain⟨c,hc⟩:=hgN;have k1:=key _ (ja x N) (by omega);have hc1:1<c:=by
  rcases du 1 c with z | z
  ·exact z
  ·have:ig x N*c<=ig x N*1:=ie _ z
   omega
 have k2:=key c ⟨_,by rw[c9];exact hc⟩ hc1
 have:=Nat.mul_lt_mul'' k1 k2
 omega
theorem Mz {k g:Nat}(h:g∣2 ^ (k+1))(hl:g<2 ^ (k+1)):g∣2 ^ (k+1)/2:=by
 obtain⟨c,hc⟩:=h;have hc2:c % 2=0:=by
  refine b6 fun z=>?_
  have hco:Nat.Coprime c 2:=by
   show ig c 2=1;rw[Nat.gcd_comm,o7,show c % 2=1 by omega];rfl
  have h1:=Nat.Coprime.pow_right (k+1) hco;have h2:c∣2 ^ (k+1):=⟨g,by rw[hc,c9]⟩;have h3:=Nat.Coprime.eq_one_of_dvd h1 h2;rw[h3,o8] at hc;omega
 refine⟨c/2,?_⟩;rw[hc]
 have:c=2*(c/2):=by omega
 rw[Nat.mul_div_assoc _ (iu hc2)]
theorem tD (h k:Nat)(hh:h<2 ^ (k+1))(h0:0<h)(hp:pm (h*2 ^ (k+1)+1) (k+1+k+1) 3 (h*2 ^ k)=h*2 ^ (k+1)):dI (h*2 ^ (k+1)+1):=by
 have hpos:0<2 ^ k:=o9 (by decide);have hs:2 ^ (k+1)=2*2 ^ k:=by rw[kl,c9]
 have hN:1<h*2 ^ (k+1)+1:=by have:=rh h0 (o9 (n:=k+1) (show 0<2 by decide));omega
 have hlt:h*2 ^ k<2 ^ (k+1+k+1):=by
  have:=Nat.mul_lt_mul_of_lt_of_le hh (af (2 ^ k)) hpos
  rw[<- ip] at this;exact nq this (lg (by decide) (by omega))
 rw[Fy _ _ _ hlt] at hp;refine pW (F:=2 ^ (k+1)) (b:=3 ^ h) [2] hN ?_ ?_ ?_ fun g hg hl=>⟨2,by simp,Mz hg hl⟩
 ·have:=jj (2 ^ (k+1)) (show h+1<=2 ^ (k+1) from hh)
  rw[gr] at this
  have:=o9 (n:=k+1) (show 0<2 by decide)
  omega
 ·have e3:3 ^ (h*2 ^ (k+1))=3 ^ (h*2 ^ k)*3 ^ (h*2 ^ k):=by
   rw[hs,show h*(2*2 ^ k)=h*2 ^ k*2 by rw[c9 2,dt],jh,Nat.pow_two]
  rw[<- jh,e3,ji,hp];have e:∀ x:Nat,0<x->x*x % (x+1)=1:=fun x hx=>by
   rw[show x*x=1+(x+1)*(x-1) by
    have:x*x=(x-1+1)*x:=by rw[gt hx]
    have h2:(x+1)*(x-1)=x*(x-1)+(x-1):=by rw[gr,gd]
    have h3:x*x=x*(x-1)+x:=by
     have:x*x=x*(x-1+1):=by rw[gt hx]
     rw[this,ri,o8]
    omega,Nat.add_mul_mod_self_left,ii (by omega)]
  exact e _ (rh h0 (o9 (by decide)))
 ·intro r hr
  obtain rfl:=az.mp hr;rw[<- jh,hs,m4 _ (by decide),<- hs,hp,l7];have e:∀ x:Nat,x % 2=0->ig (x+x) (x+1)=1:=fun x hx=>by
   have:ig (x+x) (x+1)∣2:=by
    have a1:=Nat.gcd_dvd_left (x+x) (x+1);have a2:=ja (x+x) (x+1);have a3:=Nat.dvd_sub (Nat.dvd_mul_left_of_dvd a2 2) a1;rw[show 2*(x+1)-(x+x)=2 by omega] at a3;exact a3
   have hle:=tm (by decide) this;have hpos:=Nat.gcd_pos_of_pos_right (x+x) (show 0<x+1 by omega);rcases du (ig (x+x) (x+1)) 2 with z | z
   ·omega
   ·have e2:ig (x+x) (x+1)=2:=by omega
    have a2:=ja (x+x) (x+1);rw[e2] at a2;omega
  refine e _ ?_;rw[hs,<- dt,c9 h 2,dt];exact Nat.mul_mod_right ..
theorem Vh:dI (133*2 ^ 192+1):=tD 133 191 (by decide +kernel) (by decide) (by decide +kernel)
def Dh (N:Nat):Bool:=decide (1<N)&&(cf N).all fun x=>x==0||ig x N==1
theorem Kf (h:Dh N=true):dI N:=by
 unfold Dh at h;rw[cr,decide_eq_true_iff,fe] at h;refine⟨h.1,fun x h0 hx=>?_⟩
 have:=h.2 x (cx.mpr hx)
 rw[iy,beq_iff_eq,beq_iff_eq] at this;omega
theorem dI.cop {r c:Nat}(h:dI r)(hc:¬ r∣c):Nat.Coprime c r:=by
 show ig c r=1;rw[Nat.gcd_comm,o7];have h1:=h.1;exact h.2 (c % r) (j3 fun z=>hc (iu z)) (jf _ (by omega))
theorem Ax:∀ (rs:List Nat),(∀ r∈rs,dI r)->∀ c,c∣rs.prod->c≠1->∃ r∈rs,r∣c
 | [],_,c,h,h1=>absurd (Nat.eq_one_of_dvd_one h) h1
 | r::rs,hp,c,h,h1=>by
  by_cases hr:r∣c
  ·exact⟨r,by simp,hr⟩
  ·rw[List.prod_cons] at h
   obtain⟨r',h2,h3⟩:=Ax rs (fun x hx=>hp x (ah _ hx)) c (Nat.Coprime.dvd_of_dvd_mul_left ((hp r (by simp)).cop hr) h) h1;exact⟨r',ah _ h2,h3⟩
theorem Xa:dI 2305843009213693951:=by
 have ps:∀ r∈[61,151,331,1321],dI r:=fun r hr=>Kf (by
  have:∀ r∈[61,151,331,1321],Dh r=true:=by decide +kernel
  exact this r hr)
 refine pW (F:=4027518961) (b:=429339995019680672) [61,151,331,1321] (by decide) (by decide) ?_ ?_ fun g hg hl=>?_
 ·rw[<- Fy 32 _ _ (by decide)]
  decide +kernel
 ·intro r hr
  have key:∀ r∈[61,151,331,1321],ig (pm 2305843009213693951 32 429339995019680672 (4027518961/r)+(2305843009213693951-1)) 2305843009213693951=1:=by decide +kernel
  rw[<- Fy 32 _ _ (fb (oa _ _) (by decide))];exact key r hr
 ·obtain⟨c,hc⟩:=hg
  have hF:([61,151,331,1321]:List Nat).prod=4027518961:=by decide
  obtain⟨r,hr,q,rfl⟩:=Ax _ ps c (by rw[hF];exact⟨g,by rw[hc,c9]⟩) fun z=>by rw[z,o8] at hc;omega
  have h0:=(ps r hr).1;refine⟨r,hr,q,?_⟩;rw[hc,show g*(r*q)=r*(g*q) by rw[<- dt,c9 g r,dt],m4 _ (by omega)]
theorem Vl:dI (211*2 ^ 192+1):=tD 211 191 (by decide +kernel) (by decide) (by decide +kernel)
theorem Ve:dI (598*2 ^ 192+1):=tD 598 191 (by decide +kernel) (by decide) (by decide +kernel)
theorem Uz:dI (652*2 ^ 192+1):=tD 652 191 (by decide +kernel) (by decide) (by decide +kernel)
theorem Vk:dI (721*2 ^ 192+1):=tD 721 191 (by decide +kernel) (by decide) (by decide +kernel)
theorem Vs:dI (850*2 ^ 192+1):=tD 850 191 (by decide +kernel) (by decide) (by decide +kernel)
theorem Tq:dI (1282*2 ^ 192+1):=tD 1282 191 (by decide +kernel) (by decide) (by decide +kernel)
structure Euc (pr:Nat)(num:Int)(last rest:Nat)(lt t:Int):Prop where
 pos:1<=rest
 lp:1<=last
 cop:ig rest last=1
 ct:Cg pr (t*num) rest
 cl:Cg pr (lt*num) last
 bd:t.natAbs*last+lt.natAbs*rest<=pr
theorem Euc.init {pr:Nat}{num:Int}{r:Nat}(h:dI pr)(hr:num % pr=r)(h0:r≠0):Euc pr num pr r 0 1:=by
 have h1:=h.1;have hlt:(r:Int)<pr:=by rw[<- hr];exact ci _ (by omega)
 refine⟨by omega,by omega,h.2 r (by omega) (by omega),?_,?_,by simp⟩
 ·rw[im,<- hr]
  exact (pE num).symm
 ·rw[nn]
  unfold Cg;rw[lv];exact o6.mpr (Int.dvd_refl _)
theorem Euc.step {pr:Nat}{num:Int}{last rest:Nat}{lt t:Int}(h:Euc pr num last rest lt t)(h1:rest≠1):Euc pr num rest (last % rest) t (lt-(last/rest:Nat)*t):=by
 have hp:=h.pos;have hd:=lj last rest;have hd2:((last:Nat):Int)=rest*(last/rest:Nat)+(last % rest:Nat):=by exact_mod_cast hd.symm
 refine⟨?_,hp,?_,?_,h.ct,?_⟩
 ·refine j3 fun z=>h1 ?_
  have:=h.cop
  rw[Nat.gcd_eq_left (iu z)] at this;exact this
 ·rw[<- o7]
  exact h.cop
 ·have e:(lt-(last/rest:Nat)*t)*num=lt*num-(last/rest:Nat)*(t*num):=by rw[mm,dm]
  rw[e,show ((last % rest:Nat):Int)=(last:Int)-(last/rest:Nat)*(rest:Int) by rw[hd2,fz];omega];exact h.cl.sub ((Cg.refl _).mul h.ct)
 ·have hb:=h.bd
  have a1:(lt-(last/rest:Nat)*t).natAbs<=lt.natAbs+(last/rest)*t.natAbs:=by
   have:=qm lt ((last/rest:Nat)*t)
   rw[l8,d0] at this;exact this
  have a2:=jj rest a1;rw[gr] at a2;have a3:t.natAbs*last=(last/rest)*t.natAbs*rest+t.natAbs*(last % rest):=by
   conv=>lhs;rw[<- hd,ri,<- dt,c9 t.natAbs rest,dt,c9 rest]
   rw[c9 t.natAbs]
  omega
theorem Euc.tle {pr:Nat}{num:Int}{last rest:Nat}{lt t:Int}(h:Euc pr num last rest lt t):t.natAbs<=pr∧lt.natAbs<=pr:=by
 have hb:=h.bd;have h1:=ie t.natAbs h.lp;have h2:=ie lt.natAbs h.pos;omega
theorem Euc.fin {pr:Nat}{num:Int}{last rest:Nat}{lt t:Int}(h:Euc pr num last rest lt t)(h1:rest=1):Cg pr (t % pr*num) 1:=by
 have:=h.ct
 rw[h1] at this;exact ((pE t).mul (Cg.refl num)).trans this
theorem crt {M1 pr:Nat}{D res r2 inv:Int}(hM:0<M1)(hp:0<pr)(h1:Cg M1 res D)(h2:Cg pr r2 D)(hi:Cg pr (inv*M1) 1)(h0:0<=res∧res<M1):Cg (M1*pr:Nat) (res+(r2-res)*inv % pr*M1) D∧0<=res+(r2-res)*inv % pr*M1∧res+(r2-res)*inv % pr*M1<(M1*pr:Nat):=by
 have e0:=dc ((r2-res)*inv) (show (pr:Int)≠0 by omega);have e1:=ci ((r2-res)*inv) (show (0:Int)<pr by omega);have hc:=pE (m:=pr) ((r2-res)*inv);generalize (r2-res)*inv % pr=q at e0 e1 hc;refine⟨?_,?_,?_⟩
 ·have a1:Cg M1 (res+q*M1) D:=by
   have:Cg M1 (q*M1) 0:=by
    unfold Cg;rw[lw];exact Int.dvd_mul_left ..
   have:=h1.add this
   rwa [qk] at this
  have a2:Cg pr (res+q*M1) D:=by
   have b1:Cg pr (q*M1) (r2-res):=by
    refine (hc.mul (Cg.refl (M1:Int))).trans ?_;rw[dm]
    have:=(Cg.refl (m:=pr) (r2-res)).mul hi
    rwa [ld] at this
   have:=(Cg.refl (m:=pr) res).add b1
   rw[show res+(r2-res)=r2 by omega] at this;exact this.trans h2
  unfold Cg at a1 a2 hi ⊢;obtain⟨x,hx⟩:=a1;rw[hx] at a2 ⊢;have a3:(pr:Int)∣x:=by
   have c1:(pr:Int)∣inv*(M1*x):=mq a2;have c2:(pr:Int)∣(inv*M1-1)*x:=mz hi
   have:=Int.dvd_sub c1 c2
   rw[show inv*(M1*x)-(inv*M1-1)*x=x by rw[mm,dm];omega] at this;exact this
  obtain⟨y,rfl⟩:=a3;refine⟨y,?_⟩;rw[<- dm,eg]
 ·have:=Int.mul_nonneg e0 (show (0:Int)<=M1 by omega)
  omega
 ·have a:=k7 (show q<=(pr:Int)-1 by omega) (show (0:Int)<=M1 by omega)
  rw[mm,im] at a;rw[eg,fz (M1:Int)];omega
theorem Ji {M:Nat}{D res bd:Int}(hm:2*bd<M)(hD : -bd<=D∧D<=bd)(h:Cg M res D)(h0:0<=res∧res<M):(if bd<res then res-M else res)=D:=by
 obtain⟨k,hk⟩:=h;have k0:k=0∨k=1:=by
  rcases Int.lt_or_le k 0 with z | z
  ·have:=lh (show k<=-1 by omega) (show (0:Int)<=M by omega)
   omega
  ·rcases Int.lt_or_le 1 k with y | y
   ·have:=lh (show 2<=k by omega) (show (0:Int)<=M by omega)
    omega
   ·omega
 rcases k0 with rfl | rfl
 ·rw[ga] at hk
  rw[if_neg (by omega)];omega
 ·rw[ld] at hk
  rw[if_pos (by omega)];omega
end
theorem Ip {pr p:Nat}{rest top0 inv dN dM D:Int}(hr:0<rest∧rest<pr)(hi:Cg pr (inv*top0) 1)(hE:Cg pr dN (sg p*(top0*dM)))(hD:Cg pr (rest*dN) D) :
  (0<(if p % 2=1 then (pr:Int)-rest*top0 % pr else rest*top0 % pr)∧(if p % 2=1 then (pr:Int)-rest*top0 % pr else rest*top0 % pr)<pr)∧Cg pr ((if p % 2=1 then (pr:Int)-rest*top0 % pr else rest*top0 % pr)*dM) D:=by
 have h0:=dc (rest*top0) (show (pr:Int)≠0 by omega);have h1:=ci (rest*top0) (show (0:Int)<pr by omega);have hc:=pE (m:=pr) (rest*top0);have hnz:rest*top0 % pr≠0:=fun z=>by
  rw[z] at hc;have a1:=(hc.mul (Cg.refl (m:=pr) inv));rw[nn,dm,fz top0] at a1;have a2:=(Cg.refl (m:=pr) rest).mul hi;rw[ld] at a2;have a3:=a1.trans a2;unfold Cg at a3;rw[lv] at a3
  have:=Int.le_of_dvd hr.1 (o6.mp a3)
  omega
 generalize rest*top0 % pr=x at h0 h1 hc hnz;have key:Cg pr (x*dM) (rest*(top0*dM)):=by
  rw[<- dm];exact hc.mul (Cg.refl _)
 have hE2:=((Cg.refl (m:=pr) rest).mul hE).symm.trans hD;by_cases hp:p % 2=1
 ·rw[if_pos hp]
  have hs:sg p = -1:=by unfold sg;rw[if_neg (by omega)]
  rw[hs] at hE2;refine⟨⟨by omega,by omega⟩,?_⟩;have a1:Cg pr (((pr:Int)-x)*dM) (-(x*dM)):=by
   unfold Cg;rw[mm,show (pr:Int)*dM-x*dM - -(x*dM)=pr*dM by omega];exact ql ..
  refine a1.trans (key.neg.trans ?_);rw[show -(rest*(top0*dM))=rest*(-1*(top0*dM)) by rw[rc,im,Int.mul_neg]];exact hE2
 ·rw[if_neg hp]
  have hs:sg p=1:=by unfold sg;rw[if_pos (by omega)]
  rw[hs,im] at hE2;exact⟨⟨by omega,h1⟩,key.trans hE2⟩
def pL:List Nat->Nat
 | []=>1
 | x::l=>x*pL l
theorem Hb (x:Nat):∀ l:List Nat,pL (l++[x])=pL l*x
 | []=>by show x*1=1*x;omega
 | y::l=>by
  show y*pL (l++[x])=y*pL l*x;rw[Hb x l,dt]
theorem No {R:Nat}:∀ {l:List Nat},(∀ x∈l,x<=R)->pL l<=R ^ l.length
 | [],_=>af _
 | y::l,h=>by
  show y*pL l<=R ^ (l.length+1);rw[kl,c9];exact fj (No fun x hx=>h x (ah _ hx)) (h y (ar ..))
def rs (n:Nat)(r:List Int):Nat:=sN n fun k=>(r.getD k 0).natAbs
theorem Ri (n:Nat):∀ M:List (List Int),pN M.length (fun i=>sN n fun k=>(ent M i k).natAbs)=pL (M.map (rs n))
 | []=>rfl
 | r::M=>by
  show (sN n fun k=>(ent (r::M) 0 k).natAbs)*pN M.length (fun i=>sN n fun k=>(ent (r::M) (i+1) k).natAbs)=rs n r*pL (M.map (rs n));rw[<- Ri n M];rfl
theorem Lv {f:Nat->Nat}:∀ {n k:Nat},k<n->f k<=sN n f
 | n+1,k,h=>by
  show f k<=sN n f+f n;rcases du k n with z | z
  ·have:=Lv (f:=f) z
   omega
  ·rw[show k=n by omega]
   omega
theorem Sz {n:Nat}{r:List Int}(hl:r.length=n){x:Int}(hx:x∈r):x.natAbs<=rs n r:=by
 obtain⟨k,hk⟩:=g9 hx;have hkl:=(ag.mp hk).1
 have:=Lv (f:=fun k=>(r.getD k 0).natAbs) (n:=n) (k:=k) (by omega)
 rw[aj,hk] at this;exact this
theorem Sv {M:List (List Int)}{n:Nat}(h:M.length=n):(det n (ent M)).natAbs<=pL (M.map (rs n)):=by
 rw[<- Ri,h];exact wA
def kn:List Nat:=[133,211,598,652,721,850,1282]
def pr (j:Nat):Nat:=kn.getD j 0*2 ^ 192+1
def md:Nat->Nat
 | 0=>2305843009213693951
 | j+1=>md j*pr j
theorem Nh:∀ {j:Nat},j<7->dI (pr j)
 | 0,_=>Vh
 | 1,_=>Vl
 | 2,_=>Ve
 | 3,_=>Uz
 | 4,_=>Vk
 | 5,_=>Vs
 | 6,_=>Tq
 | j+7,h=>by omega
theorem Wo:∀ j,j<7->pr j<2 ^ 250∧md j % pr j≠0∧md j<2 ^ 1600∧md (j+1)<2 ^ 1800:=by decide +kernel
section
variable {n m p q i j k l:Nat}{A B T U:Mx}{f g:Nat->Int}{c:Nat->Int}
theorem Bh (h:i<n):det n (cC A i fun _=>0)=0:=by
 have e:=nT (c:=1) (A:=A) (u:=fun _=>0) (v:=fun _=>0) h;rw[show (fun k:Nat=>(0:Int)+1*0)=fun _=>0 from rfl] at e;omega
def pI:Nat->(Nat->Int)->Int
 | 0,_=>1
 | n+1,f=>pI n f*f n
theorem Bp:∀ {n:Nat} {f:Nat->Int},pI (n+1) f=f 0*pI n fun i=>f (i+1)
 | 0,f=>by show 1*f 0=f 0*1;omega
 | n+1,f=>by
  show pI (n+1) f*f (n+1)=f 0*(pI n (fun i=>f (i+1))*f (n+1));rw[Bp (n:=n),dm]
theorem Oi:∀ {n:Nat} {f:Nat->Int},(∀ i,i<n->f i=1)->pI n f=1
 | 0,_,_=>rfl
 | n+1,f,h=>by
  show pI n f*f n=1;rw[Oi (n:=n) fun i hi=>h i (by omega),h n (by omega)];rfl
theorem wR:∀ {n:Nat} {U:Mx},(∀ i k,k<i->i<n->U i k=0)->det n U=pI n fun i=>U i i
 | 0,_,_=>rfl
 | n+1,U,h=>by
  rw[Wj fun i hi=>h (i+1) 0 (by omega) (by omega),wR (n:=n) fun i k h1 h2=>h (i+1) (k+1) (by omega) (by omega),Bp]
end
section
variable {n i j k l m:Nat}{A B:Mx}{f:Nat->Nat}{c:Int}
theorem Kk (hi:i<n)(hj:j<n)(hij:i≠j):det n (cC A i fun k=>A i k+c*A j k)=det n A:=by
 have e:=nT (c:=c) (A:=A) (u:=A i) (v:=A j) hi;have z:det n (cC A i (A j))=0:=by
  rcases du i j with h | h
  ·refine rD (j-(i+1)) (i:=i) (A:=cC A i (A j)) (by omega) fun k _=>?_
   rw[lH,show i+1+(j-(i+1))=j by omega,jT (by omega)]
  ·refine rD (i-(j+1)) (i:=j) (A:=cC A i (A j)) (by omega) fun k _=>?_
   rw[jT (by omega),show j+1+(i-(j+1))=i by omega,lH]
 rw[z,jP (A i) fun _=>rfl,ga,qk] at e;exact e
def un (i k:Nat):Int:=if k=i then 1 else 0
def chM (n:Nat)(f:Nat->Nat):Mx:=fun i k=>un i k-if f i<n then un (f i) k else 0
def chS (n:Nat)(f:Nat->Nat)(S:Nat->Bool):Mx:=fun i k=>if S i=true then un i k else chM n f i k
theorem oS {S S':Nat->Bool}{a:Nat}(h:S a=S' a):chS n f S a k=chS n f S' a k:=by
 unfold chS;rw[h]
theorem Gg {S:Nat->Bool}(hi:i<n)(hS:S i=false)(hf:f i<n->S (f i)=true):det n (chS n f fun a=>S a||a==i)=det n (chS n f S):=by
 by_cases h:f i<n
 ·have hne:i≠f i:=fun z=>by have:=hf h;rw[<- z,hS] at this;cases this
  rw[<- Kk (A:=chS n f S) (i:=i) (j:=f i) (c:=1) hi h hne];refine bN fun a k _ _=>?_
  unfold cC
  try dsimp only
  by_cases ha:a=i
  ·subst ha
   rw[if_pos rfl];unfold chS
   try dsimp only
   rw[if_pos (by rw[beq_self_eq_true,t7]),if_neg (by rw[hS];exact ak),if_pos (hf h)];unfold chM;rw[if_pos h];omega
  ·rw[if_neg ha]
   exact oS (by rw[beq_false_of_ne ha,gq])
 ·refine bN fun a k _ _=>?_
  by_cases ha:a=i
  ·subst ha
   unfold chS
   try dsimp only
   rw[if_pos (by rw[beq_self_eq_true,t7]),if_neg (by rw[hS];exact ak)];unfold chM;rw[if_neg h,lw]
  ·exact oS (by rw[beq_false_of_ne ha,gq])
theorem Ta:∀ n:Nat,det n un=1
 | n=>by
  rw[wR (n:=n) fun i k h1 _=>by unfold un;rw[if_neg (by omega)]];exact Oi fun i _=>by unfold un;rw[if_pos rfl]
theorem Sn {d:Nat->Nat}(hd:∀ i,i<n->f i<n->d (f i)<d i):det n (chM n f)=1:=by
 have key:∀ m l,l<=n->det n (chS n f fun a=>decide (d a<m)||(decide (d a=m)&&decide (a<l)))=det n (chM n f):=fun m=>by
  induction m with
  | zero =>
   intro l
   induction l with
   | zero =>
    intro _;refine bN fun a k _ _=>?_
    unfold chS
    try dsimp only
    rw[if_neg (by simp)]
   | succ l ih =>
    intro hl;rw[<- ih (by omega)];by_cases h:d l=0
    ·have:=Gg (n:=n) (f:=f) (i:=l) (S:=fun a=>decide (d a<0)||(decide (d a=0)&&decide (a<l))) (by omega) (by simp) (fun hf=>by have:=hd l (by omega) hf;omega)
     rw[<- this]
     congr 2
     funext a
     by_cases ha:a=l
     ·subst ha
      simp[h]
     ·have e:decide (a<l+1)=decide (a<l):=by rw[decide_eq_decide];omega
      rw[e,beq_false_of_ne ha,gq]
    ·congr 2
     funext a
     by_cases ha:a=l
     ·subst ha
      simp[h]
     ·have e:decide (a<l+1)=decide (a<l):=by rw[decide_eq_decide];omega
      rw[e]
  | succ m ihm =>
   intro l
   induction l with
   | zero =>
    intro _;rw[<- ihm n (af n)];refine bN fun a k ha _=>?_
    have e:(decide (d a<m+1)||(decide (d a=m+1)&&decide (a<0)))=(decide (d a<m)||(decide (d a=m)&&decide (a<n))):=by
     rw[decide_eq_false (show ¬ a<0 by omega),decide_eq_true ha,jk,gq,Bool.and_true,c7,iy,decide_eq_true_iff,decide_eq_true_iff,decide_eq_true_iff];omega
    exact oS e
   | succ l ih =>
    intro hl;rw[<- ih (by omega)];by_cases h:d l=m+1
    ·have:=Gg (n:=n) (f:=f) (i:=l) (S:=fun a=>decide (d a<m+1)||(decide (d a=m+1)&&decide (a<l))) (by omega) (by simp[h]) (fun hf=>by
      have:=hd l (by omega) hf
      have:d (f l)<m+1:=by omega
      simp[this])
     rw[<- this]
     congr 2
     funext a
     by_cases ha:a=l
     ·subst ha
      simp[h]
     ·have e:decide (a<l+1)=decide (a<l):=by rw[decide_eq_decide];omega
      rw[e,beq_false_of_ne ha,gq]
    ·congr 2
     funext a
     by_cases ha:a=l
     ·subst ha
      simp[h]
     ·have e:decide (a<l+1)=decide (a<l):=by rw[decide_eq_decide];omega
      rw[e]
 obtain⟨m,hm⟩:∃ m,∀ i,i<n->d i<m:=by
  have:∀ N,∃ m,∀ i,i<N->d i<m:=fun N=>by
   induction N with
   | zero=>exact⟨0,fun i h=>by omega⟩
   | succ N ih =>
    obtain⟨m,hm⟩:=ih;refine⟨m+d N+1,fun i h=>?_⟩;rcases du i N with z | z
    ·have:=hm i z
     omega
    ·rw[show i=N by omega]
     omega
  exact this n
 rw[<- key m 0 (b8 _),<- Ta n];refine bN fun a k ha _=>?_
 unfold chS
 try dsimp only
 rw[if_pos (by simp[hm a ha])]
def itf (f:Nat->Nat):Nat->Nat->Nat
 | 0,i=>i
 | k+1,i=>f (itf f k i)
theorem Nm (hi:i<n)(hl:∀ k,k<=m->itf f (k+1) i<n)(hr:itf f (m+1) i=i)(hne:∀ k,0<k->k<=m->itf f k i≠i):det n (chM n f)=0:=by
 have key:∀ k,k<=m->det n (cC (chM n f) i fun l=>un i l-un (itf f (k+1) i) l)=det n (chM n f):=fun k=>by
  induction k with
  | zero =>
   intro _;refine jP _ fun l=>?_
   unfold chM
   have:=hl 0 (b8 _)
   rw[if_pos (show f i<n from this)];rfl
  | succ k ih =>
   intro hk;rw[<- ih (by omega)];have h1:=hl k (by omega);have h2:=hl (k+1) hk;have h3:=hne (k+1) (by omega) hk;rw[<- Kk (A:=cC (chM n f) i fun l=>un i l-un (itf f (k+1) i) l) (i:=i) (j:=itf f (k+1) i) (c:=1) hi h1 (fun z=>h3 z.symm)];refine bN fun a l _ _=>?_
   unfold cC
   try dsimp only
   by_cases ha:a=i
   ·subst ha
    rw[if_pos rfl,if_pos rfl,if_pos rfl,if_neg h3];unfold chM;rw[if_pos (show f (itf f (k+1) a)<n from h2)];show un a l-un (f (itf f (k+1) a)) l=_;omega
   ·rw[if_neg ha,if_neg ha,if_neg ha]
 rw[<- key m (af _),hr,show (fun l=>un i l-un i l)=fun _=>0 by funext l;omega];exact Bh hi
end
def fS (n i w:Nat):Nat->Int:=fun k=>un i k-if w<n then un w k else 0
def chA (n:Nat)(Ws:Nat->List Nat)(c:List Nat):Mx:=fun i k=>match c[i]? with
 | some w=>fS n i w k
 | none=>((Ws i).map fun w=>fS n i w k).sum
def Jk (Ws:Nat->List Nat):Nat->List (List Nat)
 | 0=>[[]]
 | m+1=>(Jk Ws m).flatMap fun c=>(Ws m).map fun w=>c++[w]
section
variable {n m i:Nat}{A:Mx}{Ws:Nat->List Nat}{c:List Nat}
theorem tG:∀ {m:Nat} {c:List Nat},c∈Jk Ws m->c.length=m
 | 0,c,h=>by rw[az.mp h];rfl
 | m+1,c,h=>by
  obtain⟨c',h1,h2⟩:=jm.mp h;obtain⟨w,_,rfl⟩:=au.mp h2;rw[aq,tG h1];rfl
theorem Ai {g:Nat->Nat->Int}(hi:i<n):∀ l:List Nat,det n (cC A i fun k=>(l.map fun w=>g w k).sum)=(l.map fun w=>det n (cC A i (g w))).sum
 | []=>Bh hi
 | w::l=>by
  have e:=zE (A:=A) (u:=g w) (v:=fun k=>(l.map fun w=>g w k).sum) hi;rw[am,cg,<- Ai hi l,<- e];rfl
theorem On (hm:c.length=m)(h:m<n):det n (chA n Ws c)=((Ws m).map fun w=>det n (chA n Ws (c++[w]))).sum:=by
 have e1:det n (chA n Ws c)=det n (cC (chA n Ws c) m fun k=>((Ws m).map fun w=>fS n m w k).sum):=(jP _ fun k=>by
  show _=match c[m]? with
   | some w=>fS n m w k
   | none=>((Ws m).map fun w=>fS n m w k).sum
  rw[cp (by omega)]).symm
 rw[e1,Ai h]
 congr 1
 refine bv fun w _=>bN fun a k _ _=>?_
 unfold cC chA;by_cases ha:a=m
 ·subst ha
  rw[if_pos rfl,fi (by omega),hm,qo];rfl
 ·rw[if_neg ha]
  rcases du a m with z | z
  ·rw[fq (by omega)]
  ·rw[cp (l:=c) (by omega),cp (by rw[aq,b7];omega)]
theorem Gx:∀ {m:Nat},m<=n->det n (chA n Ws [])=((Jk Ws m).map fun c=>det n (chA n Ws c)).sum
 | 0,_=>by
  show det n (chA n Ws [])=det n (chA n Ws [])+0;omega
 | m+1,h=>by
  rw[Gx (m:=m) (by omega)];have key:∀ l:List (List Nat),(∀ c∈l,c.length=m)->(l.map fun c=>det n (chA n Ws c)).sum=((l.flatMap fun c=>(Ws m).map fun w=>c++[w]).map fun c=>det n (chA n Ws c)).sum:=fun l=>by
   induction l with
   | nil=>intro _;rfl
   | cons c l ih =>
    intro hl;rw[am,cg,dk,bn,ro,ih fun c hc=>hl c (ah _ hc),On (hl c (ar ..)) (by omega),br];rfl
  exact key _ fun c hc=>tG hc
def goF (n:Nat)(c:List Nat)(i:Nat):Nat:=if i<n then c.getD i n else i
def goN (n:Nat)(c:List Nat):Nat->Nat->Nat
 | 0,i=>i
 | k+1,i=>goF n c (goN n c k i)
def qA (n:Nat)(c:List Nat):Prop:=∀ i,i<n->¬ goN n c n i<n
theorem Nd (hc:c.length=n):det n (chA n Ws c)=det n (chM n fun i=>c.getD i n):=bN fun a k ha _=>by
 unfold chA;rw[aa (show a<c.length by omega)];show fS n a c[a] k=fS n a (c.getD a n) k;rw[show c.getD a n=c[a] by rw[aj,aa (show a<c.length by omega)];rfl]
theorem Hk {k:Nat}(h:¬ i<n):goN n c k i=i:=by
 induction k with
 | zero=>rfl
 | succ k ih =>
  show goF n c (goN n c k i)=i;rw[ih];unfold goF;rw[if_neg h]
theorem lD {k:Nat}:∀ l:Nat,goN n c (l+k) i=goN n c l (goN n c k i)
 | 0=>by rw[ix];rfl
 | l+1=>by
  rw[show l+1+k=(l+k)+1 by omega];show goF n c (goN n c (l+k) i)=goF n c (goN n c l (goN n c k i));rw[lD l]
theorem Ik {k:Nat}:goN n c (k+1) i=goN n c k (goF n c i):=by
 rw[show k+1=k+1 from rfl,lD k];rfl
theorem Im (h:qA n c):det n (chM n fun i=>c.getD i n)=1:=by
 have ex:∀ i,∃ k,¬ goN n c k i<n:=fun i=>by
  by_cases hi:i<n
  ·exact⟨n,h i hi⟩
  ·exact⟨0,hi⟩
 have lX:∀ i,∃ k,¬ goN n c k i<n∧∀ j,j<k->goN n c j i<n:=fun i=>by
  obtain⟨k,hk⟩:=ex i
  induction k with
  | zero=>exact⟨0,hk,fun j hj=>by omega⟩
  | succ k ih =>
   by_cases h2:goN n c k i<n
   ·refine⟨k+1,hk,fun j hj=>?_⟩
    refine b6 fun z=>?_
    have:goN n c (k-j+j) i=goN n c j i:=by rw[lD];exact Hk z
    rw[show k-j+j=k by omega] at this;rw[this] at h2;exact z h2
   ·exact ih h2
 refine Sn (d:=fun i=>jn (lX i)) fun i hi hf=>?_
 obtain⟨a1,a2⟩:=om (lX i);obtain⟨b1,b2⟩:=om (lX (c.getD i n));have hg:goF n c i=c.getD i n:=by unfold goF;rw[if_pos hi]
 show jn (lX (c.getD i n))<jn (lX i);generalize jn (lX i)=ka at a1 a2 ⊢;generalize jn (lX (c.getD i n))=kb at b1 b2 ⊢;refine b6 fun z=>?_
 cases ka with
 | zero=>exact a1 hi
 | succ ka =>
  rw[Ik,hg] at a1;exact a1 (b2 ka (by omega))
theorem Kg (h:¬ qA n c):det n (chM n fun i=>c.getD i n)=0:=by
 obtain⟨i,hi,hn⟩:∃ i,i<n∧goN n c n i<n:=by
  refine b6 fun z=>h fun i hi hn=>z ⟨i,hi,hn⟩
 have lt:∀ k,k<=n->goN n c k i<n:=fun k hk=>by
  refine b6 fun z=>?_
  have:goN n c (n-k+k) i=goN n c k i:=by rw[lD];exact Hk z
  rw[show n-k+k=n by omega] at this;rw[this] at hn;exact z hn
 obtain⟨a,b,hab,hb,heq⟩:∃ a b,a<b∧b<=n∧goN n c a i=goN n c b i:=by
  refine b6 fun z=>?_
  have nd:((cf (n+1)).map fun k=>goN n c k i).Nodup:=by
   refine dy.mpr (gb (fun {x y} hx hy hxy he=>z ⟨x,y,hxy,?_,he⟩) iw)
   have:=cx.mp hy
   omega
  have:=Hg.kP (ms:=cf n) nd fun y hy=>by
   obtain⟨k,hk,rfl⟩:=au.mp hy
   have:=cx.mp hk
   exact cx.mpr (lt k (by omega))
  rw[aR,dj,dj] at this;omega
 have hj:=lt a (by omega);have step:∀ k,k+a<=n->goN n c k (goN n c a i)<n:=fun k hk=>by
  rw[<- lD];exact lt _ hk
 have hper:goN n c (b-a) (goN n c a i)=goN n c a i:=by
  rw[<- lD,show b-a+a=b by omega,heq]
 generalize goN n c a i=j at hj step hper;obtain⟨p,hp0,hpb,hpp,hmin⟩:∃ p,0<p∧p<=b-a∧goN n c p j=j∧∀ q,0<q->q<p->goN n c q j≠j:=by
  have:∀ N p,p<=N->0<p->p<=b-a->goN n c p j=j->∃ p,0<p∧p<=b-a∧goN n c p j=j∧∀ q,0<q->q<p->goN n c q j≠j:=fun N=>by
   induction N with
   | zero=>intro p h1 h2;omega
   | succ N ih =>
    intro p h1 h2 h3 h4;by_cases hq:∃ q,0<q∧q<p∧goN n c q j=j
    ·obtain⟨q,q1,q2,q3⟩:=hq
     exact ih q (by omega) q1 (by omega) q3
    ·exact⟨p,h2,h3,h4,fun q q1 q2 q3=>hq ⟨q,q1,q2,q3⟩⟩
  exact this (b-a) (b-a) (af _) (by omega) (af _) hper
 have eq:∀ k,k<=p->itf (fun i=>c.getD i n) k j=goN n c k j:=fun k=>by
  induction k with
  | zero=>intro _;rfl
  | succ k ih =>
   intro hk;show c.getD (itf (fun i=>c.getD i n) k j) n=goF n c (goN n c k j);rw[ih (by omega)];unfold goF;rw[if_pos (step k (by omega))]
 refine Nm (i:=j) (m:=p-1) hj (fun k hk=>?_) ?_ fun k h1 h2=>?_
 ·rw[eq (k+1) (by omega)]
  exact step (k+1) (by omega)
 ·rw[show p-1+1=p by omega,eq p (af _),hpp]
 ·rw[eq k (by omega)]
  exact hmin k h1 (by omega)
theorem Il [DecidablePred (qA n)]:det n (chA n Ws [])=(((Jk Ws n).filter fun c=>decide (qA n c)).length:Nat):=by
 rw[Gx (af n)];have key:∀ l:List (List Nat),(∀ c∈l,c.length=n)->(l.map fun c=>det n (chA n Ws c)).sum=((l.filter fun c=>decide (qA n c)).length:Nat):=fun l=>by
  induction l with
  | nil=>intro _;rfl
  | cons c l ih =>
   intro hl;rw[am,cg,ih fun c hc=>hl c (ah _ hc),Nd (hl c (ar ..)),cu];by_cases hc:qA n c
   ·rw[Im hc,if_pos (decide_eq_true hc),a9]
    omega
   ·rw[Kg hc,if_neg (by rw[decide_eq_false hc];exact ak)]
    omega
 exact key _ fun c hc=>tG hc
end
def cE (words:List (List Nat))(o:List Nat):Int:=((words.countP fun w=>decide (w.drop 1=o):Nat):Int)
def rI (texts:List (List Nat))(t:List Nat)(words:List (List Nat)):List Int:=texts.map fun o=>if o=t then ((words.length:Nat):Int)-cE words t else-cE words o
def wS (ls:List (List Nat))(g:List Nat->List (List Nat))(i:Nat):List Nat:=(g (ls.getD i [])).map fun w=>ls.idxOf (w.drop 1)
theorem Oz {w:List Nat}{ws:List (List Nat)}{o:List Nat}:cE (w::ws) o=cE ws o+if w.drop 1=o then 1 else 0:=by
 unfold cE;rw[m6];by_cases h:w.drop 1=o
 ·rw[if_pos (decide_eq_true h),if_pos h];omega
 ·rw[if_neg (fun z=>h (of_decide_eq_true z)),if_neg h];omega
theorem Cm {ls:List (List Nat)}(hnd:ls.Nodup){i k:Nat}(hk:k<ls.length):∀ ws:List (List Nat),((ws.map fun w=>ls.idxOf (w.drop 1)).map fun w=>fS ls.length i w k).sum=(if i=k then ((ws.length:Nat):Int) else 0)-cE ws ls[k]
 | []=>by
  show (0:Int)=_-((0:Nat):Int);split <;> simp
 | w::ws=>by
  rw[am,am,cg,Cm hnd hk ws,Oz];have e:(if ls.idxOf (w.drop 1)<ls.length then un (ls.idxOf (w.drop 1)) k else 0)=if w.drop 1=ls[k] then (1:Int) else 0:=by
   by_cases h:w.drop 1=ls[k]
   ·rw[if_pos h,h,hnd.idxOf_getElem,if_pos hk]
    simp[un]
   ·rw[if_neg h]
    split
    ·rename_i hlt
     have hne:ls.idxOf (w.drop 1)≠k:=fun z=>h (by
      have:=p0 hlt
      subst z;exact this.symm)
     unfold un;rw[if_neg (Ne.symm hne)]
    ·rfl
  show un i k-(if ls.idxOf (w.drop 1)<ls.length then un (ls.idxOf (w.drop 1)) k else 0)+_=_;rw[e,a9];by_cases hik:i=k
  ·rw[if_pos hik,if_pos hik,hik]
   simp[un];omega
  ·rw[if_neg hik,if_neg hik]
   simp[un,hik,Ne.symm hik];omega
theorem Kp {ls:List (List Nat)}(hnd:ls.Nodup)(g:List Nat->List (List Nat)):det ls.length (ent (ls.map fun t=>rI ls t (g t)))=det ls.length (chA ls.length (wS ls g) []):=bN fun i k hi hk=>by
 show ((ls.map fun t=>rI ls t (g t)).getD i []).getD k 0=((wS ls g i).map fun w=>fS ls.length i w k).sum;unfold wS;rw[Cm hnd hk,aj,aj,al,aa hi];show ((rI ls ls[i] (g ls[i]))[k]?).getD 0=_;unfold rI;rw[al,aa hk,aj,aa hi];show (if ls[k]=ls[i] then _ else _)=(if i=k then (((g ls[i]).length:Nat):Int) else 0)-cE (g ls[i]) ls[k];by_cases hik:i=k
 ·subst hik
  rw[if_pos rfl,if_pos rfl]
 ·rw[if_neg hik,if_neg (fun z=>hik (by have a:=hnd.idxOf_getElem i hi;have b:=hnd.idxOf_getElem k hk;rw[z,a] at b;exact b)),lv]
def sT (ls:List (List Nat))(cw:List Nat->List Nat)(t:List Nat):List Nat:=if t∈ls then (cw t).drop 1 else t
def iT (ls:List (List Nat))(cw:List Nat->List Nat):Nat->List Nat->List Nat
 | 0,t=>t
 | k+1,t=>sT ls cw (iT ls cw k t)
def plc (ls:List (List Nat))(cw:List Nat->List Nat):List Nat:=ls.map fun t=>ls.idxOf ((cw t).drop 1)
theorem Cp {ls:List (List Nat)}(cw:List Nat->List Nat){t:List Nat}:∀ k:Nat,goN ls.length (plc ls cw) k (ls.idxOf t)=ls.idxOf (iT ls cw k t)
 | 0=>rfl
 | k+1=>by
  show goF ls.length (plc ls cw) (goN ls.length (plc ls cw) k (ls.idxOf t))=ls.idxOf (sT ls cw (iT ls cw k t));rw[Cp cw k];unfold goF sT;by_cases h:iT ls cw k t∈ls
  ·have hl:ls.idxOf (iT ls cw k t)<ls.length:=jb h
   rw[if_pos hl,if_pos h];unfold plc;rw[aj,al,aa hl,p0 hl];rfl
  ·have hl:¬ ls.idxOf (iT ls cw k t)<ls.length:=fun z=>h (mr.mp z)
   rw[if_neg hl,if_neg h]
theorem Jj {ls:List (List Nat)}(hnd:ls.Nodup)(cw:List Nat->List Nat):qA ls.length (plc ls cw)↔(ls.all fun t=>decide (iT ls cw ls.length t∉ls))=true:=by
 rw[fe];constructor
 ·intro h t ht
  refine decide_eq_true fun z=>h (ls.idxOf t) (jb ht) ?_
  rw[Cp];exact jb z
 ·intro h i hi z
  have e:=Cp (ls:=ls) cw (t:=ls[i]) ls.length;rw[hnd.idxOf_getElem i hi] at e;rw[e] at z;exact of_decide_eq_true (h ls[i] (cz hi)) (mr.mp z)
inductive R2 {α β:Type}(R:α->β->Prop):List α->List β->Prop
 | nil:R2 R [] []
 | cons {a:α} {b:β} {as:List α} {bs:List β}:R a b->R2 R as bs->R2 R (a::as) (b::bs)
section
variable {α β:Type}{R R':α->β->Prop}{as:List α}{bs:List β}
end
abbrev W:=List Nat
def gE (f:W->W)(t w:W):W->W:=fun x=>if x=t then w else f x
theorem Jg {f:W->W}{a b x y:W}(h:a≠b):gE (gE f a x) b y=gE (gE f b y) a x:=by
 funext z
 unfold gE;by_cases h1:z=b
 ·rw[if_pos h1,if_neg (fun e=>h (e.symm.trans h1)),if_pos h1]
 ·rw[if_neg h1,if_neg h1]
theorem oI {f:W->W}{t w:W}:gE f t w t=w:=by unfold gE;rw[if_pos rfl]
theorem rG {f:W->W}{t w x:W}(h:x≠t):gE f t w x=f x:=by unfold gE;rw[if_neg h]
def chs (g:W->List W):List W->List (W->W)
 | []=>[fun _=>[]]
 | t::ls=>(chs g ls).flatMap fun f=>(g t).map fun w=>gE f t w
theorem yO {g:W->List W}:∀ {ls:List W} {f:W->W},f∈chs g ls->∀ t∈ls,f t∈g t
 | t::ls,f,h,x,hx=>by
  obtain⟨f',h1,h2⟩:=jm.mp h;obtain⟨w,hw,rfl⟩:=au.mp h2;by_cases e:x=t
  ·subst e;rw[oI];exact hw
  ·rw[rG e];exact yO h1 x ((aw.mp hx).resolve_left e)
theorem xH {α β γ:Type}{F:α->β->γ}(as:List α)(bs:List β):(as.flatMap fun a=>bs.map fun b=>F a b).Perm (bs.flatMap fun b=>as.map fun a=>F a b):=by
 induction as with
 | nil=>simp
 | cons a as ih =>
  rw[dk];refine (kr _ ih).trans ?_;clear ih
  induction bs with
  | nil=>simp
  | cons b bs ih2 =>
   rw[dk,dk,am,am,ff,ff];refine List.Perm.cons _ ?_;refine oe ?_ (kr _ ih2);rw[<- gf,<- gf];exact List.Perm.append_right _ oo
theorem iO {α β:Type}{F G:α->List β}:∀ {l:List α},(∀ a∈l,(F a).Perm (G a))->(l.flatMap F).Perm (l.flatMap G)
 | [],_=>by simp
 | a::l,h=>by
  rw[dk,dk];exact (h a (ar ..)).append (iO fun b hb=>h b (ah _ hb))
theorem Nz {g:W->List W}{ls ms:List W}(h:ls.Perm ms):ls.Nodup->(chs g ls).Perm (chs g ms):=by
 induction h with
 | nil=>intro _;exact .refl _
 | cons t _ ih=>intro hn;exact (ih (ck.mp hn).2).flatMap_right _
 | swap a b l =>
  intro hn;have hab:b≠a:=fun e=>(ck.mp hn).1 (e▸ar ..)
  show (((chs g l).flatMap fun f=>(g a).map fun w=>gE f a w).flatMap fun f=>(g b).map fun w=>gE f b w).Perm (((chs g l).flatMap fun f=>(g b).map fun w=>gE f b w).flatMap fun f=>(g a).map fun w=>gE f a w);rw[p8,p8];refine iO fun f _=>?_
  rw[m7,m7];have e:(fun x=>(g a).map fun y=>gE (gE f b x) a y)=fun x=>(g a).map fun y=>gE (gE f a y) b x:=by
   funext x;congr 1;funext y;exact Jg hab
  have e2:=xH (F:=fun x y=>gE (gE f a x) b y) (g a) (g b);refine e2.trans ?_;rw[e]
 | trans h1 _ ih1 ih2=>intro hn;exact (ih1 hn).trans (ih2 (h1.nodup_iff.mp hn))
def cmT (ls:List W)(cw:W->W):Bool:=ls.all fun t=>decide (iT ls cw ls.length t∉ls)
theorem yD {ls ms:List W}(h:∀ t,t∈ls↔t∈ms){cw:W->W}{t:W}:∀ k,iT ls cw k t=iT ms cw k t
 | 0=>rfl
 | k+1=>by
  show sT ls cw (iT ls cw k t)=sT ms cw (iT ms cw k t);rw[yD h k];unfold sT;by_cases e:iT ms cw k t∈ms
  ·rw[if_pos e,if_pos ((h _).mpr e)]
  ·rw[if_neg e,if_neg (fun z=>e ((h _).mp z))]
theorem Cc {ls ms:List W}(h:ls.Perm ms)(cw:W->W):cmT ls cw=cmT ms cw:=by
 unfold cmT;rw[c7,fe,fe];have hm:∀ t,t∈ls↔t∈ms:=fun t=>h.mem_iff
 constructor
 ·intro q t ht
  have:=of_decide_eq_true (q t ((hm t).mpr ht))
  rw[yD hm,h.length_eq] at this;exact decide_eq_true fun z=>this ((hm _).mpr z)
 ·intro q t ht
  have:=of_decide_eq_true (q t ((hm t).mp ht))
  rw[<- yD hm,<- h.length_eq] at this;exact decide_eq_true fun z=>this ((hm _).mp z)
def nC (ls:List W)(g:W->List W):Nat:=((chs g ls).filter (cmT ls)).length
theorem Gn {ls ms:List W}(h:ls.Perm ms)(hn:ls.Nodup)(g:W->List W):nC ls g=nC ms g:=by
 unfold nC;rw[((Nz (g:=g) h hn).filter (cmT ls)).length_eq]
 congr 2
 funext f
 exact Cc h f
theorem oR {g g':W->List W}:∀ {ls:List W},(∀ t∈ls,g t=g' t)->chs g ls=chs g' ls
 | [],_=>rfl
 | t::ls,h=>by
  show (chs g ls).flatMap _=(chs g' ls).flatMap _;rw[oR fun x hx=>h x (ah _ hx),h t (ar ..)]
theorem As {ls:List W}{g g':W->List W}(h:∀ t∈ls,g t=g' t):nC ls g=nC ls g':=by unfold nC;rw[oR h]
theorem Ao {ls:List W}(hn:ls.Nodup){g:W->List W}:∀ m,m<=ls.length->Jk (wS ls g) m=(chs g (ls.take m).reverse).map fun f=>(ls.take m).map fun t=>ls.idxOf ((f t).drop 1)
 | 0,_=>by rw[jg];rfl
 | m+1,h=>by
  have hm:m<ls.length:=h;have ht:ls.take (m+1)=ls.take m++[ls[m]]:=by rw[cn,aa hm];rfl
  rw[ht,List.reverse_append];show (Jk (wS ls g) m).flatMap _=((chs g (ls.take m).reverse).flatMap fun f=>(g ls[m]).map fun w=>gE f ls[m] w).map _;rw[Ao hn m (by omega),m7,List.map_flatMap];have hnot:ls[m]∉ls.take m:=fun z=>by
   have nd:(ls.take m++[ls[m]]).Nodup:=ht▸hn.sublist (i9 (m+1) ls);exact (dw.mp nd).2.2 _ z _ (az.mpr rfl) rfl
  congr 1
  funext f
  unfold wS;rw[aj,aa hm,br,br];refine bv fun w _=>?_
  show (ls.take m).map _++[_]=(ls.take m++[ls[m]]).map _;rw[bn,l9]
  congr 1
  ·refine bv fun t ht=>?_
   show _=ls.idxOf ((gE f ls[m] w t).drop 1);rw[rG (fun e=>hnot (by rw[<- e];exact ht))]
  ·show _=[ls.idxOf ((gE f ls[m] w ls[m]).drop 1)]
   rw[oI]
theorem Ud {ls:List W}(hn:ls.Nodup)(g:W->List W):det ls.length (ent (ls.map fun t=>rI ls t (g t)))=((nC ls g:Nat):Int):=by
 classical
 rw[Kp hn,Il,Ao hn ls.length (af _),da];rw[Gn (qp ls).symm hn g];unfold nC;rw[List.filter_map,aR]
 congr 3
 funext f
 rw[Cc (qp ls)];show decide (qA ls.length (plc ls f))=cmT ls f;rw[c7,decide_eq_true_iff];exact Jj hn f
theorem tT {g:W->List W}:∀ ls:List W,(chs g ls).length<=2 ^ (ls.map fun t=>(g t).length).sum
 | []=>af 1
 | t::ls=>by
  have ih:=tT (g:=g) ls;have e:(chs g (t::ls)).length=(chs g ls).length*(g t).length:=by
   show ((chs g ls).flatMap fun f=>(g t).map fun w=>gE f t w).length=_;generalize chs g ls=l
   induction l with
   | nil=>simp
   | cons f l ihl=>rw[dk,aq,aR,ihl,a9,gr,gd,ki]
  rw[e,am,cg,ip,c9];exact fj (jl Nat.lt_two_pow_self) ih
end Dt
namespace Hg
variable {bg en:List Nat->List Nat}
def Tr (bg en:List Nat->List Nat):List Nat->List (List Nat)->List Nat->Prop
 | p,[],q=>p=q
 | p,w::ws,q=>bg w=p∧Tr bg en (en w) ws q
theorem Tr.snoc {w:List Nat}:∀ {ws:List (List Nat)} {p:List Nat},Tr bg en p ws (bg w)->Tr bg en p (ws++[w]) (en w)
 | [],_,h=>⟨h.symm,rfl⟩
 | _::_,_,h=>⟨h.1,Tr.snoc h.2⟩
theorem Tr.take:∀ {ws:List (List Nat)} {p q:List Nat} (k:Nat),Tr bg en p ws q->∃ r,Tr bg en p (ws.take k) r
 | _,p,_,0,_=>⟨p,by rw[jg];rfl⟩
 | [],p,_,_+1,_=>⟨p,rfl⟩
 | _::ws,_,_,k+1,h=>by
  obtain⟨r,hr⟩:=Tr.take k h.2;exact⟨r,h.1,hr⟩
theorem Tr.last {w:List Nat}:∀ {ws:List (List Nat)} {p q:List Nat},Tr bg en p ws q->ws[ws.length-1]?=some w->q=en w
 | [],_,_,_,e=>by simp at e
 | [v],_,_,h,e=>by
  have e':v=w:=by simpa using e
  rw[<- e'];exact h.2.symm
 | _::v::ws,_,_,h,e=>Tr.last (ws:=v::ws) h.2 (by simpa using e)
theorem Tr.exc (χ:List Nat->Bool):∀ {ws:List (List Nat)} {p q:List Nat},Tr bg en p ws q->((ws.filter fun l=>χ (bg l)).length:Int)-((ws.filter fun l=>χ (en l)).length:Int)=(if χ p then 1 else 0)-(if χ q then 1 else 0)
 | [],p,q,h=>by
  cases h;simp
 | w::ws,p,q,h=>by
  have ih:=Tr.exc χ h.2;rw[cu,cu,h.1];by_cases h1:χ p <;> by_cases h2:χ (en w) <;> simp[h1,h2] at ih ⊢ <;> omega
theorem Tr.rch {ms:List (List Nat)}{p:List Nat}:∀ {ws:List (List Nat)} {r q:List Nat},Tr bg en r ws q->(∀ w∈ws,w∈ms)->Rch bg en ms p r->∀ w∈ws,Rch bg en ms p (bg w)∧Rch bg en ms p (en w)
 | v::ws,r,q,h,hs,hr,w,hw=>by
  have h1:Rch bg en ms p (bg v):=by rw[h.1];exact hr
  have h2:Rch bg en ms p (en v):=.fw (hs v (ar ..)) h1;rcases aw.mp hw with rfl | hw
  ·exact⟨h1,h2⟩
  ·exact Tr.rch h.2 (fun w hw=>hs w (ah _ hw)) h2 w hw
theorem Rch.trans {ms:List (List Nat)}{p z y:List Nat}(h1:Rch bg en ms p z)(h2:Rch bg en ms z y):Rch bg en ms p y:=by
 induction h2 with
 | self=>exact h1
 | fw hw _ ih=>exact .fw hw ih
 | bw hw _ ih=>exact .bw hw ih
theorem Rch.symm {ms:List (List Nat)}{p z:List Nat}(h:Rch bg en ms p z):Rch bg en ms z p:=by
 induction h with
 | self=>exact .self
 | fw hw _ ih=>exact (Rch.bw hw .self).trans ih
 | bw hw _ ih=>exact (Rch.fw hw .self).trans ih
end Hg
namespace Wd
open Hg
def beg (l:W):W:=l.take (l.length-1)
def fin (l:W):W:=l.drop 1
def sl (t:W)(i j:Nat):W:=(t.drop i).take (j-i)
def hd (w:W):Nat:=w.getD 0 0
section
variable {t:W}{n a b c d:Nat}
end
end Wd
namespace Wd
section
variable {r g:W}{n:Nat}
end
def num (k:Nat)(w:W):Nat:=w.foldl (fun a c=>a*k+(c-97)) 0
def Okk (k:Nat)(w:W):Prop:=∀ c∈w,97<=c∧c<97+k
def Lst (w:W):Prop:=w=lX w
def fill (k n:Nat)(p:W):W:=p++kf (n-p.length) (96+k)
instance (w:W):Decidable (Lst w):=inferInstanceAs (Decidable (w=lX w))
structure LW (k n:Nat)(w:W):Prop where
 len:w.length=n
 ok:Okk k w
 lst:Lst w
def Nn (k:Nat)(w:W)(m:Nat):Prop:=∀ v,LW k w.length v->∀ p,m<=p->p<w.length->v.take p=w.take p->¬ w.getD p 0<v.getD p 0
theorem Ju {t:W}{n c:Nat}(hn:1<=n)(h:n<=t.length+1):fS (t++[c]) n=fS t n++[t.drop (t.length+1-n)++[c]]:=by
 unfold fS;rw[aq,b7,show t.length+1+1-n=t.length+1-n+1 by omega,oh,bn];refine congr (congrArg _ (bv fun i hi=>?_)) ?_
 ·rw[cx] at hi
  rw[<- tZ (t:=t++[c]) (by rw[aq,b7];omega),<- tZ (t:=t) (by omega),iq (by omega),List.take_append_of_le_length (by rw[b9];omega)]
 ·show [fL (t++[c]) n (t.length+1-n)]=_
  rw[<- tZ (t:=t++[c]) (by rw[aq,b7];omega),iq (by omega),cq (by rw[aq,b9,b7];omega)]
section
variable {k n:Nat}{t:W}
end
open Hg
def lst (us:List W):W:=us.getD (us.length-1) []
theorem Lk (us:List W)(w:W):lst (us++[w])=w:=by unfold lst;simp
def ext (ws us:List W):List (List W):=(ws.filter fun w=>decide (beg w=fin (lst us)) && !decide (w∈us)).map fun w=>us++[w]
section
variable {ws us:List W}{w0 w:W}{n k:Nat}
theorem Tr.cut {p q:W}:∀ {xs:List W} {p:W},Tr beg fin p (xs++[w]) q->Tr beg fin p xs (beg w)∧q=fin w
 | [],_,h=>⟨h.1.symm,h.2.symm⟩
 | x::xs,_,h=>by
  obtain⟨h1,h2⟩:=Tr.cut (p:=p) (xs:=xs) h.2;exact⟨⟨h.1,h1⟩,h2⟩
theorem Tr.lst {p q:W}(h:Tr beg fin p us q)(hne:us≠[]):q=fin (lst us):=by
 obtain⟨xs,w,rfl⟩:∃ xs w,us=xs++[w]:=⟨us.dropLast,us.getLast hne,(iz hne).symm⟩;rw[Lk];exact (Tr.cut (p:=p) h).2
end
def cnt (f:W->W)(E:List W)(v:W):Nat:=(E.filter fun w=>decide (f w=v)).length
def Bal (E:List W)(s t:W):Prop:=∀ v,cnt beg E v+(if v=t then 1 else 0)=cnt fin E v+(if v=s then 1 else 0)
section
variable {E L us:List W}{s t v p q w:W}
theorem nI (f:W->W)(e:W)(E:List W)(v:W):cnt f (e::E) v=(if f e=v then 1 else 0)+cnt f E v:=by
 unfold cnt;rw[cu];by_cases h:f e=v
 ·rw[if_pos (decide_eq_true h),if_pos h,a9,ki]
 ·rw[if_neg (by rw[decide_eq_false h];exact ak),if_neg h,ix]
theorem Hl (f:W->W)(A B:List W)(v:W):cnt f (A++B) v=cnt f A v+cnt f B v:=by
 unfold cnt;rw[fu,aq]
theorem tH {A B:List W}(f:W->W)(h:A.Perm B)(v:W):cnt f A v=cnt f B v:=(h.filter _).length_eq
theorem Bal.perm {A B:List W}(h:Bal A s t)(hp:A.Perm B):Bal B s t:=fun v=>by rw[<- tH beg hp,<- tH fin hp];exact h v
theorem Dj:∀ {us:List W} {p:W},Tr beg fin p us q->Bal us p q
 | [],p,h=>fun v=>by
  have h:p=q:=h;subst h;rfl
 | w::us,p,h=>fun v=>by
  have ih:=Dj h.2 v;have e:beg w=p:=h.1;rw[nI,nI];have e1:(if v=p then 1 else 0)=(if beg w=v then 1 else 0):=by
   by_cases c:v=p
   ·rw[if_pos c,if_pos (by rw[e,c])]
   ·rw[if_neg c,if_neg (fun z=>c (by rw[<- z,e]))]
  have e2:(if v=fin w then 1 else 0)=(if fin w=v then 1 else 0):=by
   by_cases c:v=fin w
   ·rw[if_pos c,if_pos c.symm]
   ·rw[if_neg c,if_neg (fun z=>c z.symm)]
  omega
theorem Bal.rest (h:Bal E s t)(hp:E.Perm (us++L))(ht:Tr beg fin s us q):Bal L q t:=fun v=>by
 have h1:=(h.perm hp) v;have h2:=Dj ht v;rw[Hl,Hl] at h1;omega
end
end Wd
namespace Dt
open Wd Hg
section
variable {ts:List W}{f:W->W}
theorem Lb {t:W}(h:t∉ts):∀ k,iT ts f k t=t
 | 0=>rfl
 | k+1=>by
  show sT ts f (iT ts f k t)=t;rw[Lb h k];unfold sT;rw[if_neg h]
theorem Nc {t:W}:∀ l k,iT ts f (l+k) t=iT ts f l (iT ts f k t)
 | 0,k=>by rw[ix];rfl
 | l+1,k=>by
  rw[show l+1+k=(l+k)+1 by omega];show sT ts f (iT ts f (l+k) t)=sT ts f (iT ts f l (iT ts f k t));rw[Nc l k]
theorem zD:cmT ts f=true↔∀ χ:W->Prop,(∀ t,χ t->t∈ts∧χ ((f t).drop 1))->∀ t,¬ χ t:=by
 constructor
 ·intro h χ hc t ht
  have key:∀ k,χ (iT ts f k t):=fun k=>by
   induction k with
   | zero=>exact ht
   | succ k ih =>
    show χ (sT ts f (iT ts f k t));unfold sT;rw[if_pos (hc _ ih).1];exact (hc _ ih).2
  exact of_decide_eq_true (fe.mp h t (hc t ht).1) (hc _ (key ts.length)).1
 ·intro h
  refine fe.mpr fun t ht=>decide_eq_true fun hn=>?_
  have lt:∀ k,k<=ts.length->iT ts f k t∈ts:=fun k hk=>by
   refine b6 fun z=>?_
   have e:iT ts f (ts.length-k+k) t=iT ts f k t:=by rw[Nc];exact Lb z _
   rw[show ts.length-k+k=ts.length by omega] at e;rw[e] at hn;exact z hn
  obtain⟨a,b,hab,hb,heq⟩:∃ a b,a<b∧b<=ts.length∧iT ts f a t=iT ts f b t:=by
   refine b6 fun z=>?_
   have nd:((cf (ts.length+1)).map fun k=>iT ts f k t).Nodup:=by
    refine dy.mpr (gb (fun {x y} hx hy hxy he=>z ⟨x,y,hxy,?_,he⟩) iw)
    have:=cx.mp hy
    omega
   have:=Hg.kP (ms:=ts) nd fun y hy=>by
    obtain⟨k,hk,rfl⟩:=au.mp hy
    have:=cx.mp hk
    exact lt k (by omega)
   rw[aR,dj] at this;omega
  refine h (fun u=>∃ k,a<=k∧k<b∧u=iT ts f k t) (fun u ⟨k,h1,h2,h3⟩=>?_) (iT ts f a t) ⟨a,af _,hab,rfl⟩;subst h3;refine⟨lt k (by omega),?_⟩;have e:(f (iT ts f k t)).drop 1=iT ts f (k+1) t:=by
   show _=sT ts f (iT ts f k t);unfold sT;rw[if_pos (lt k (by omega))]
  rw[e];by_cases hk:k+1<b
  ·exact⟨k+1,by omega,hk,rfl⟩
  ·exact⟨a,af _,hab,by rw[heq,show b=k+1 by omega]⟩
end
def fct:Nat->Nat
 | 0=>1
 | n+1=>(n+1)*fct n
def pF (c:W->Nat):List W->Nat
 | []=>1
 | t::ts=>fct (c t-1)*pF c ts
theorem uK {c c':W->Nat}:∀ {ts:List W},(∀ t∈ts,c t=c' t)->pF c ts=pF c' ts
 | [],_=>rfl
 | t::ts,h=>by
  show fct (c t-1)*pF c ts=fct (c' t-1)*pF c' ts;rw[h t (ar ..),uK fun u hu=>h u (ah _ hu)]
theorem Ov {c:W->Nat}{ts us:List W}(h:ts.Perm us):pF c ts=pF c us:=by
 induction h with
 | nil=>rfl
 | cons t _ ih=>show fct (c t-1)*_=fct (c t-1)*_;rw[ih]
 | swap a b l=>show fct (c b-1)*(fct (c a-1)*pF c l)=fct (c a-1)*(fct (c b-1)*pF c l);rw[qq]
 | trans _ _ h1 h2=>exact h1.trans h2
def og (E:List W)(t:W):List W:=E.filter fun w=>decide (beg w=t)
def rm (E:List W)(w:W):List W:=E.filter fun x=>!decide (x=w)
section
variable {E:List W}{a b t w:W}
theorem sE:(og E t).length=cnt beg E t:=rfl
theorem bZ:w∈og E t↔w∈E∧beg w=t:=by unfold og;rw[d8,decide_eq_true_iff]
theorem gB {x:W}:x∈rm E w↔x∈E∧x≠w:=by
 unfold rm;rw[d8,qr,decide_eq_false_iff_not]
theorem gF (h:E.Nodup):(rm E w).Nodup:=h.sublist jr
theorem hZ (h:E.Nodup)(hw:w∈E):E.Perm (w::rm E w):=by
 refine (dh h (ck.mpr ⟨fun z=>(gB.mp z).2 rfl,gF h⟩)).mpr fun x=>?_
 rw[aw,gB];constructor
 ·intro hx
  by_cases e:x=w
  ·exact .inl e
  ·exact .inr ⟨hx,e⟩
 ·rintro (e | e)
  ·rw[e];exact hw
  ·exact e.1
theorem gH (h:E.Nodup)(hw:w∈E):(rm E w).length+1=E.length:=by
 have:=(hZ h hw).length_eq
 rw[a9] at this;omega
theorem Tj (h:E.Nodup)(hw:w∈E)(hb:Bal E (beg w) b):Bal (rm E w) (fin w) b:=hb.rest (us:=[w]) (hZ h hw) ⟨rfl,rfl⟩
theorem uP (h:E.Nodup)(hw:w∈E)(f:W->W)(v:W):cnt f E v=(if f w=v then 1 else 0)+cnt f (rm E w) v:=by
 rw[tH f (hZ h hw),nI]
theorem Lx (h:beg w≠t):og (rm E w) t=og E t:=by
 unfold og rm;rw[j4];refine km fun x _=>?_
 by_cases e:beg x=t
 ·have:x≠w:=fun z=>h (by rw[<- z];exact e)
  simp[e,this]
 ·simp[e]
theorem Ez (h:beg w=t):og (rm E w) t=(og E t).filter fun x=>!decide (x=w):=by
 unfold og rm;rw[j4,j4];refine km fun x _=>?_
 rw[Bool.and_comm]
end
def gM:Nat->List W->W->W->List (List W)
 | 0,_,a,b=>if a=b then [[]] else []
 | n+1,E,a,b=>(og E a).flatMap fun w=>(gM n (rm E w) (fin w) b).map fun us=>w::us
def eN (E:List W)(a b:W):Nat:=(gM E.length E a b).length
theorem hV:∀ {n:Nat} {E:List W} {a b:W} {us:List W},E.length=n->E.Nodup->(us∈gM n E a b↔us.Perm E∧Tr beg fin a us b)
 | 0,E,a,b,us,hl,_=>by
  obtain rfl:=bx.mp hl;show us∈(if a=b then [[]] else [])↔_;constructor
  ·intro h
   by_cases e:a=b
   ·rw[if_pos e] at h
    rw[az.mp h];exact⟨.nil,e⟩
   ·rw[if_neg e] at h
    cases h
  ·rintro⟨h1,h2⟩
   obtain rfl:=mw.mp h1;have e:a=b:=h2;rw[if_pos e];exact az.mpr rfl
 | n+1,E,a,b,us,hl,hn=>by
  show us∈(og E a).flatMap (fun w=>(gM n (rm E w) (fin w) b).map fun us=>w::us)↔_;rw[jm];constructor
  ·rintro⟨w,hw,h⟩
   obtain⟨vs,hv,rfl⟩:=au.mp h;obtain⟨hwE,hwb⟩:=bZ.mp hw;have hl':(rm E w).length=n:=by have:=gH hn hwE;omega
   obtain⟨h1,h2⟩:=(hV hl' (gF hn)).mp hv;exact⟨(h1.cons w).trans (hZ hn hwE).symm,hwb,h2⟩
  ·rintro⟨h1,h2⟩
   cases us with
   | nil=>rw[<- h1.length_eq] at hl;cases hl
   | cons w vs =>
    have hwE:w∈E:=h1.mem_iff.mp (ar ..);have hl':(rm E w).length=n:=by have:=gH hn hwE;omega
    refine⟨w,bZ.mpr ⟨hwE,h2.1⟩,au.mpr ⟨vs,(hV hl' (gF hn)).mpr ⟨?_,h2.2⟩,rfl⟩⟩;exact ((h1.trans (hZ hn hwE)).cons_inv)
theorem yT:∀ {n:Nat} {E:List W} {a b:W},E.length=n->E.Nodup->(gM n E a b).Nodup
 | 0,E,a,b,_,_=>by
  show (if a=b then [[]] else []).Nodup;split <;> simp
 | n+1,E,a,b,hl,hn=>by
  show ((og E a).flatMap fun w=>(gM n (rm E w) (fin w) b).map fun us=>w::us).Nodup;have key:∀ l:List W,l.Nodup->(∀ w∈l,w∈E)->(l.flatMap fun w=>(gM n (rm E w) (fin w) b).map fun us=>w::us).Nodup:=fun l=>by
   induction l with
   | nil=>intro _ _;exact gu
   | cons w l ih =>
    intro h1 h2;rw[ck] at h1;rw[dk];have hwE:=h2 w (ar ..);refine dw.mpr ⟨?_,ih h1.2 fun x hx=>h2 x (ah _ hx),fun x hx y hy e=>?_⟩
    ·exact dy.mpr ((yT (by have:=gH hn hwE;omega) (gF hn)).imp fun h z=>h (jt z).2)
    ·obtain⟨us,_,rfl⟩:=au.mp hx
     obtain⟨v,hv,hy⟩:=jm.mp hy;obtain⟨vs,_,rfl⟩:=au.mp hy;exact h1.1 ((jt e).1▸hv)
  exact key _ (hn.sublist jr) fun w hw=>(bZ.mp hw).1
theorem Fv {E:List W}(hn:E.Nodup){a b:W}(hne:E≠[]):eN E a b=((og E a).map fun w=>eN (rm E w) (fin w) b).sum:=by
 obtain⟨n,hl⟩:∃ n,E.length=n+1:=⟨E.length-1,by have:=cj.mpr hne;omega⟩;unfold eN;rw[hl];show ((og E a).flatMap fun w=>(gM n (rm E w) (fin w) b).map fun us=>w::us).length=_;rw[ph]
 congr 1
 refine bv fun w hw=>?_
 have:=gH hn (bZ.mp hw).1
 rw[aR,show (rm E w).length=n by omega]
theorem Pr {E E':List W}(h:E.Perm E')(hn:E.Nodup)(a b:W):eN E a b=eN E' a b:=by
 unfold eN;have hn':=h.nodup_iff.mp hn;exact ((dh (yT rfl hn) (yT rfl hn')).mpr fun us=>by
  rw[hV rfl hn,hV rfl hn'];exact⟨fun ⟨h1,h2⟩=>⟨h1.trans h,h2⟩,fun ⟨h1,h2⟩=>⟨h1.trans h.symm,h2⟩⟩).length_eq
theorem oK {E:List W}(hn:E.Nodup){a b:W}(h:¬ Bal E a b):eN E a b=0:=by
 unfold eN;rw[bx,k8];intro us hu;obtain⟨h1,h2⟩:=(hV rfl hn).mp hu;exact h ((Dj h2).perm h1)
def Txs (E:List W)(b:W)(ts:List W):Prop:=ts.Nodup∧∀ t,t∈ts↔t≠b∧∃ w∈E,beg w=t
def bst (E:List W)(b:W)(ts:List W):Nat:=fct (cnt beg E b)*pF (cnt beg E) ts*nC ts (og E)
theorem Txs.perm {E:List W}{b:W}{ts us:List W}(h1:Txs E b ts)(h2:Txs E b us):ts.Perm us:=(dh h1.1 h2.1).mpr fun t=>by rw[h1.2,h2.2]
theorem Re {E:List W}{b:W}{ts us:List W}(h1:Txs E b ts)(h2:Txs E b us):bst E b ts=bst E b us:=by
 unfold bst;rw[Ov (h1.perm h2),Gn (h1.perm h2) h1.1]
def nW (ts:List W)(a:W)(g:W->List W)(w:W):Nat:=((chs g ts).filter fun f=>cmT (a::ts) (gE f a w)).length
theorem rH {ts:List W}{a:W}{g:W->List W}:nC (a::ts) g=((g a).map (nW ts a g)).sum:=by
 show (((chs g ts).flatMap fun f=>(g a).map fun w=>gE f a w).filter (cmT (a::ts))).length=((g a).map fun w=>((chs g ts).filter fun f=>cmT (a::ts) (gE f a w)).length).sum;generalize chs g ts=l
 induction l with
 | nil =>
  show 0=((g a).map fun w=>0).sum;generalize g a=l
  induction l with
  | nil=>rfl
  | cons w l ih=>rw[am,cg,<- ih]
 | cons f l ih =>
  rw[dk,fu,aq,ih];clear ih;generalize g a=m
  induction m with
  | nil=>rfl
  | cons w m ih =>
   rw[am,am,am,cg,cg,cu,cu];by_cases hc:cmT (a::ts) (gE f a w)=true
   ·rw[if_pos hc,if_pos hc,a9,a9];omega
   ·rw[if_neg hc,if_neg hc];omega
theorem Le {ts:List W}{a w:W}{g g':W->List W}(h:∀ t∈ts,g t=g' t):nW ts a g w=nW ts a g' w:=by unfold nW;rw[oR h]
theorem qD {f:W->Nat}{w:W}:∀ {l:List W},l.Nodup->w∈l->((l.filter fun x=>!decide (x=w)).map f).sum+f w=(l.map f).sum
 | x::l,hn,hw=>by
  rw[ck] at hn;by_cases e:x=w
  ·subst e
   rw[di (by simp),am,cg,lr.mpr fun y hy=>by have:y≠x:=fun z=>hn.1 (z▸hy);simp[this]];omega
  ·rw[dq (by simp[e]),am,cg,am,cg,<- qD hn.2 ((aw.mp hw).resolve_left (Ne.symm e))]
   omega
theorem Gu {S:Nat}{f h:W->Nat}:∀ {l:List W},(∀ w∈l,h w+f w=S)->(l.map h).sum+(l.map f).sum=l.length*S
 | [],_=>by simp
 | w::l,hh=>by
  have e:=hh w (ar ..);have ih:=Gu (l:=l) fun x hx=>hh x (ah _ hx)
  rw[am,cg,am,cg,a9,gr,gd];omega
theorem jR {c:Nat}{f:W->Nat}:∀ {l:List W},(∀ w∈l,f w=c)->(l.map f).sum=l.length*c
 | [],_=>by simp
 | w::l,h=>by
  rw[am,cg,h w (ar ..),jR fun x hx=>h x (ah _ hx),a9,gr,gd,ki]
theorem sA {c:Nat}{f:W->Nat}:∀ l:List W,(l.map fun w=>c*f w).sum=c*(l.map f).sum
 | []=>rfl
 | w::l=>by rw[am,cg,sA l,am,cg,ri]
theorem Oy {ts:List W}{a w:W}{g:W->List W}(ha:a∉ts)(hg:g a=[w])(hw:w.drop 1≠a)(hl:∀ t∈ts,∀ x∈g t,x.drop 1≠a):nC (a::ts) g=nC ts g:=by
 rw[rH,hg];show nW ts a g w+0=_;rw[ko];unfold nW nC
 congr 1
 refine km fun f hf=>?_
 rw[c7,zD,zD];have hm:∀ t∈ts,f t∈g t:=yO hf;constructor
 ·intro h χ hc t ht
  refine h χ (fun u hu=>?_) t ht;obtain⟨h1,h2⟩:=hc u hu;have hne:u≠a:=fun z=>ha (z▸h1)
  exact⟨ah _ h1,by rw[rG hne];exact h2⟩
 ·intro h χ hc t ht
  have key:=h (fun u=>χ u∧u≠a) fun u ⟨h1,h2⟩=>by
   obtain⟨h3,h4⟩:=hc u h1;rw[rG h2] at h4;have hu:=(aw.mp h3).resolve_left h2;exact⟨hu,h4,hl u hu _ (hm u hu)⟩
  have hat:∀ u,χ u->u=a:=fun u hu=>b6 fun z=>key u ⟨hu,z⟩
  obtain rfl:=hat t ht;have h2:=(hc t ht).2;rw[oI] at h2;exact hw (hat _ h2)
theorem Ob {ts:List W}{g:W->List W}(hne:ts≠[])(h:∀ t∈ts,∀ x∈g t,x.drop 1∈ts):nC ts g=0:=by
 unfold nC;rw[bx,gn];intro f hf hc;obtain⟨t,ht⟩:=gx _ hne;exact zD.mp hc (fun u=>u∈ts) (fun u hu=>⟨hu,h u hu _ (yO hf u hu)⟩) t ht
theorem Ku {E:List W}{b:W}(hb:Bal E b b)(v:W):cnt beg E v=cnt fin E v:=by
 have:=hb v
 omega
theorem Pp:∀ (n:Nat) {E:List W} {a b:W} {ts:List W},E.length=n->E.Nodup->Bal E a b->Txs E b ts->eN E a b=bst E b ts
 | 0,E,a,b,ts,hl,hn,hb,ht=>by
  obtain rfl:=bx.mp hl;have hab:a=b:=by
   have h:=hb a;rw[if_pos (rfl:a=a)] at h;refine b6 fun z=>?_
   rw[if_neg z] at h;cases h
  obtain rfl:ts=[]:=k8.mpr fun t h=>by
   obtain⟨_,w,hw,_⟩:=(ht.2 t).mp h;cases hw
  show (if a=b then [[]] else ([]:List (List W))).length=1;rw[if_pos hab];rfl
 | n+1,E,a,b,ts,hl,hn,hb,ht=>by
  have hne:E≠[]:=fun z=>by rw[z] at hl;cases hl
  rw[Fv hn hne];have hlw:∀ w∈og E a,(rm E w).length=n:=fun w hw=>by have:=gH hn (bZ.mp hw).1;omega
  have hbw:∀ w∈og E a,Bal (rm E w) (fin w) b:=fun w hw=>by
   obtain⟨h1,h2⟩:=bZ.mp hw;exact Tj hn h1 (h2.symm▸hb)
  by_cases hab:a=b
  ·subst hab
   by_cases h0:cnt beg E a=0
   ·have e:og E a=[]:=bx.mp h0
    rw[e];show 0=fct _*_*nC ts (og E);have hin:∀ w∈E,fin w∈ts:=fun w hw=>by
     have h1:0<cnt fin E (fin w):=ei (d8.mpr ⟨hw,decide_eq_true rfl⟩);rw[<- Ku hb] at h1;obtain⟨x,hx⟩:=ir h1;obtain⟨hx1,hx2⟩:=d8.mp hx;refine (ht.2 _).mpr ⟨fun z=>?_,x,hx1,of_decide_eq_true hx2⟩;rw[z,h0] at h1;cases h1
    obtain⟨w,hw⟩:=gx _ hne;rw[Ob (p9 (hin w hw)) fun t _ x hx=>hin x (bZ.mp hx).1,lx]
   ·have hc:∀ w∈og E a,eN (rm E w) (fin w) a=fct (cnt beg E a-1)*pF (cnt beg E) ts*nC ts (og E):=fun w hw=>by
     obtain⟨hw1,hw2⟩:=bZ.mp hw;have htw:Txs (rm E w) a ts:=⟨ht.1,fun t=>by
      rw[ht.2];constructor
      ·rintro⟨h1,x,h2,h3⟩
       exact⟨h1,x,gB.mpr ⟨h2,fun z=>h1 (by rw[<- h3,z,hw2])⟩,h3⟩
      ·rintro⟨h1,x,h2,h3⟩
       exact⟨h1,x,(gB.mp h2).1,h3⟩⟩
     rw[Pp n (hlw w hw) (gF hn) (hbw w hw) htw];unfold bst;have e1:=uP hn hw1 beg a;rw[if_pos hw2] at e1;rw[show cnt beg (rm E w) a=cnt beg E a-1 by omega];rw[uK (c':=cnt beg E) fun t ht'=>by
      have e2:=uP hn hw1 beg t;rw[if_neg (fun z=>((ht.2 t).mp ht').1 (by rw[<- z,hw2]))] at e2;omega]
     rw[As (g':=og E) fun t ht'=>Lx (fun z=>((ht.2 t).mp ht').1 (by rw[<- z,hw2]))]
    rw[jR hc,sE];unfold bst;obtain⟨m,hm⟩:∃ m,cnt beg E a=m+1:=⟨cnt beg E a-1,by omega⟩;rw[hm];show (m+1)*(fct m*_*_)=(m+1)*fct m*_*_;rw[dt,dt,dt]
  ·have hca:cnt beg E a=cnt fin E a+1:=by
    have:=hb a
    rw[if_neg hab,if_pos rfl] at this;omega
   have hat:a∈ts:=by
    obtain⟨w,hw⟩:=ir (show 0<(og E a).length by rw[sE];omega);exact (ht.2 a).mpr ⟨hab,w,bZ.mp hw⟩
   obtain⟨us,hp⟩:∃ us,ts.Perm (a::us):=⟨ts.erase a,List.perm_cons_erase hat⟩;have ht':Txs E b (a::us):=⟨hp.nodup_iff.mp ht.1,fun t=>by rw[<- hp.mem_iff];exact ht.2 t⟩;rw[Re ht ht'];have hau:a∉us:=(ck.mp ht'.1).1;have hcu:∀ w∈og E a,pF (cnt beg (rm E w)) us=pF (cnt beg E) us:=fun w hw=>uK fun t htu=>by
    obtain⟨hw1,hw2⟩:=bZ.mp hw;have e2:=uP hn hw1 beg t;rw[if_neg (fun z=>hau (by rw[<- hw2,z];exact htu))] at e2;omega
   have hcb:∀ w∈og E a,cnt beg (rm E w) b=cnt beg E b:=fun w hw=>by
    obtain⟨hw1,hw2⟩:=bZ.mp hw;have e2:=uP hn hw1 beg b;rw[if_neg (fun z=>hab (by rw[<- hw2,z]))] at e2;omega
   by_cases h1:cnt beg E a=1
   ·obtain⟨w,hw⟩:=List.length_eq_one_iff.mp (show (og E a).length=1 from h1)
    have hwm:w∈og E a:=by rw[hw];exact az.mpr rfl
    obtain⟨hw1,hw2⟩:=bZ.mp hwm;have hnf:∀ x∈E,x.drop 1≠a:=fun x hx z=>by
     have:0<cnt fin E a:=ei (d8.mpr ⟨hx,decide_eq_true z⟩)
     omega
    have htw:Txs (rm E w) b us:=⟨(ck.mp ht'.1).2,fun t=>by
     constructor
     ·intro htu
      obtain⟨h3,x,h4,h5⟩:=(ht'.2 t).mp (ah _ htu);exact⟨h3,x,gB.mpr ⟨h4,fun z=>hau (by rw[<- hw2,<- z,h5];exact htu)⟩,h5⟩
     ·rintro⟨h3,x,h4,h5⟩
      obtain⟨h6,h7⟩:=gB.mp h4;refine (aw.mp ((ht'.2 t).mpr ⟨h3,x,h6,h5⟩)).resolve_left fun z=>h7 ?_
      have:x∈og E a:=bZ.mpr ⟨h6,h5.trans z⟩
      rw[hw] at this;exact az.mp this⟩
    rw[hw];show eN (rm E w) (fin w) b+0=_;rw[ko,Pp n (hlw w hwm) (gF hn) (hbw w hwm) htw];unfold bst;rw[hcb w hwm,hcu w hwm,Oy hau hw (hnf w hw1) fun t _ x hx=>hnf x (bZ.mp hx).1];rw[As (g':=og E) fun t htu=>Lx (fun z=>hau (by rw[<- hw2,z];exact htu))];show fct _*pF _ us*_=fct _*(fct (cnt beg E a-1)*pF _ us)*_;rw[h1];show _=fct _*(1*pF _ us)*_;rw[gd]
   ·have hc:∀ w∈og E a,eN (rm E w) (fin w) b=fct (cnt beg E b)*(fct (cnt beg E a-2)*pF (cnt beg E) us)*nC (a::us) (og (rm E w)):=fun w hw=>by
     obtain⟨hw1,hw2⟩:=bZ.mp hw;have e1:=uP hn hw1 beg a;rw[if_pos hw2] at e1;have htw:Txs (rm E w) b (a::us):=⟨ht'.1,fun t=>by
      rw[ht'.2];constructor
      ·rintro⟨h3,x,h4,h5⟩
       by_cases hta:t=a
       ·obtain⟨y,hy⟩:=ir (show 0<(og (rm E w) a).length by rw[sE];omega)
        exact⟨h3,y,(bZ.mp hy).1,by rw[(bZ.mp hy).2,hta]⟩
       ·exact⟨h3,x,gB.mpr ⟨h4,fun z=>hta (by rw[<- h5,z,hw2])⟩,h5⟩
      ·rintro⟨h3,x,h4,h5⟩
       exact⟨h3,x,(gB.mp h4).1,h5⟩⟩
     rw[Pp n (hlw w hw) (gF hn) (hbw w hw) htw];unfold bst;rw[hcb w hw];show _*(fct (cnt beg (rm E w) a-1)*pF (cnt beg (rm E w)) us)*_=_;rw[hcu w hw,show cnt beg (rm E w) a-1=cnt beg E a-2 by omega]
    rw[bv hc,sA];have hS:∀ w∈og E a,nC (a::us) (og (rm E w))+nW us a (og E) w=nC (a::us) (og E):=fun w hw=>by
     obtain⟨hw1,hw2⟩:=bZ.mp hw;rw[rH,rH,Ez hw2,<- qD (l:=og E a) (f:=nW us a (og E)) (hn.sublist jr) hw]
     congr 2
     refine bv fun x _=>Le fun t htu=>Lx (fun z=>hau (by rw[<- hw2,z];exact htu))
    have hsum:=Gu hS;rw[<- rH (g:=og E),sE] at hsum;unfold bst;show _=fct (cnt beg E b)*(fct (cnt beg E a-1)*pF (cnt beg E) us)*nC (a::us) (og E);obtain⟨m,hm⟩:∃ m,cnt beg E a=m+2:=⟨cnt beg E a-2,by omega⟩;rw[hm] at hsum ⊢;have e3:((og E a).map fun w=>nC (a::us) (og (rm E w))).sum=(m+1)*nC (a::us) (og E):=by
     rw[show m+2=(m+1)+1 from rfl,gr,gd] at hsum;omega
    rw[e3];show fct _*(fct m*_)*((m+1)*_)=fct _*((m+1)*fct m*_)*_;generalize fct (cnt beg E b)=A;generalize fct m=B;generalize pF (cnt beg E) us=C;generalize nC (a::us) (og E)=D;rw[dt (m+1) B C,qq A (m+1) (B*C),c9 (m+1) (A*(B*C)),dt (A*(B*C)) (m+1) D]
def tF (e:W)(us:List W):List W:=us.drop (us.idxOf e)++us.take (us.idxOf e)
theorem zB:∀ {xs ys:List W} {p q:W},Tr beg fin p (xs++ys) q↔∃ r,Tr beg fin p xs r∧Tr beg fin r ys q
 | [],ys,p,q=>⟨fun h=>⟨p,rfl,h⟩,fun ⟨r,h1,h2⟩=>by have e:p=r:=h1;rw[e];exact h2⟩
 | x::xs,ys,p,q=>by
  constructor
  ·rintro⟨h1,h2⟩
   obtain⟨r,h3,h4⟩:=zB.mp h2;exact⟨r,⟨h1,h3⟩,h4⟩
  ·rintro⟨r,⟨h1,h3⟩,h4⟩
   exact⟨h1,zB.mpr ⟨r,h3,h4⟩⟩
theorem sJ {e:W}{us:List W}(h:e∈us):∃ xs ys,us=xs++e::ys∧e∉xs:=by
 induction us with
 | nil=>cases h
 | cons x us ih =>
  by_cases hx:x=e
  ·exact⟨[],us,by rw[hx];rfl,fun z=>by cases z⟩
  ·obtain⟨xs,ys,h1,h2⟩:=ih ((aw.mp h).resolve_left (Ne.symm hx))
   exact⟨x::xs,ys,by rw[h1];rfl,fun z=>(aw.mp z).elim (fun w=>hx w.symm) h2⟩
theorem zY {e:W}{xs ys:List W}(h:e∉xs):(xs++e::ys).idxOf e=xs.length:=by
 induction xs with
 | nil=>rw[ll,List.idxOf_cons_self];rfl
 | cons x xs ih =>
  have hx:x≠e:=fun z=>h (z▸ar ..)
  rw[ff,List.idxOf_cons,ih fun z=>h (ah _ z),beq_false_of_ne hx];rfl
theorem gU {e:W}{xs ys:List W}(h:e∉xs):tF e (xs++e::ys)=e::(ys++xs):=by
 unfold tF;rw[zY h,List.drop_left,List.take_left];rfl
theorem Cb {e e':W}{us:List W}(hn:(e::us).Nodup)(h:e'∈e::us):tF e (tF e' (e::us))=e::us:=by
 obtain⟨xs,ys,h1,h2⟩:=sJ h;rw[h1,gU h2]
 cases xs with
 | nil =>
  have h3:e=e':=(jt h1).1;subst h3;rw[dv,ll]
  have:=gU (e:=e) (xs:=[]) (ys:=ys) (fun z=>by cases z)
  rw[ll,dv] at this;exact this
 | cons x xs =>
  obtain⟨h3,h4⟩:=jt h1;subst h3;have hne:e∉e'::ys:=fun z=>by
   rw[ck,h4] at hn;exact hn.1 (bu _ z)
  rw[show e'::(ys++e::xs)=(e'::ys)++e::xs from rfl,gU hne];rfl
def rds (E:List W)(e:W):List (List W):=gM (rm E e).length (rm E e) (fin e) (beg e)
theorem rL {E:List W}{e:W}{us:List W}(hn:E.Nodup)(he:e∈E):us∈rds E e↔(e::us).Perm E∧Tr beg fin (beg e) (e::us) (beg e):=by
 unfold rds;rw[hV rfl (gF hn)];constructor
 ·rintro⟨h1,h2⟩
  exact⟨(h1.cons e).trans (hZ hn he).symm,rfl,h2⟩
 ·rintro⟨h1,_,h2⟩
  exact⟨(h1.trans (hZ hn he)).cons_inv,h2⟩
theorem Nq {E:List W}{e e':W}(hn:E.Nodup)(he:e∈E)(he':e'∈E):(rds E e).length<=(rds E e').length:=by
 have inj:((rds E e).map fun us=>(tF e' (e::us)).tail).Nodup:=by
  refine dy.mpr (gb (fun {x y} hx hy hne heq=>hne ?_) (yT rfl (gF hn)));obtain⟨p1,_⟩:=(rL hn he).mp hx;obtain⟨p2,_⟩:=(rL hn he).mp hy;have n1:=p1.nodup_iff.mpr hn;have n2:=p2.nodup_iff.mpr hn;have m1:e'∈e::x:=p1.mem_iff.mpr he';have m2:e'∈e::y:=p2.mem_iff.mpr he';have hd:∀ {z:List W},e'∈e::z->tF e' (e::z)=e'::(tF e' (e::z)).tail:=fun {z} hz=>by
   obtain⟨xs,ys,h1,h2⟩:=sJ hz;rw[h1,gU h2];rfl
  have e1:=Cb n1 m1;have e2:=Cb n2 m2;rw[hd m1,heq,<- hd m2,e2] at e1;exact (jt e1).2.symm
 have:=Hg.kP (ms:=rds E e') inj fun z hz=>by
  obtain⟨us,hu,rfl⟩:=au.mp hz;obtain⟨h1,h2⟩:=(rL hn he).mp hu;obtain⟨xs,ys,h3,h4⟩:=sJ (h1.mem_iff.mpr he');rw[h3,gU h4];show ys++xs∈_;rw[h3] at h1 h2;obtain⟨r,t1,t2⟩:=zB.mp h2;have hr:beg e'=r:=t2.1;subst hr;refine (rL hn he').mpr ⟨?_,rfl,zB.mpr ⟨_,t2.2,t1⟩⟩;refine oe ?_ h1;exact (oo (l₁:=e'::ys) (l₂:=xs))
 rw[aR] at this;exact this
theorem Nt {E:List W}{e e':W}(hn:E.Nodup)(he:e∈E)(he':e'∈E):eN (rm E e) (fin e) (beg e)=eN (rm E e') (fin e') (beg e') :=
 Nat.le_antisymm (Nq hn he he') (Nq hn he' he)
theorem xC {E:List W}{e:W}(hn:E.Nodup)(he:e∈E){p:W}:eN E p p=cnt beg E p*eN (rm E e) (fin e) (beg e):=by
 rw[Fv hn (p9 he),jR (c:=eN (rm E e) (fin e) (beg e)) fun w hw=>?_,sE];obtain⟨h1,h2⟩:=bZ.mp hw;rw[<- h2];exact Nt hn h1 he
theorem Py {E:List W}{p:W}(h:Bal E p p)(v:W):Bal E v v:=fun u=>by
 have:=h u
 omega
theorem yA:∀ {n:Nat},n<=64->fct n<=64 ^ n
 | 0,_=>af 1
 | n+1,h=>by
  show (n+1)*fct n<=64 ^ (n+1);rw[kl,c9];exact fj (yA (by omega)) (by omega)
theorem Bw (n:Nat):fct (n-1)<=fct n:=by
 cases n with
 | zero=>exact af _
 | succ n=>show fct n<=(n+1)*fct n;exact Nat.le_mul_of_pos_left _ (qt n)
theorem Rh {c:W->Nat}:∀ {ts:List W},(∀ t∈ts,c t<=64)->pF c ts<=64 ^ (ts.map c).sum
 | [],_=>af 1
 | t::ts,h=>by
  show fct (c t-1)*pF c ts<=_;rw[am,cg,ip];exact fj (a5 (Bw _) (yA (h t (ar ..)))) (Rh fun u hu=>h u (ah _ hu))
theorem Fr {c:W->Nat}{t:W}:∀ ts:List W,pF c (ts++[t])=pF c ts*fct (c t-1)
 | []=>by show fct _*1=1*fct _;omega
 | u::ts=>by
  show fct _*pF c (ts++[t])=fct _*pF c ts*_;rw[Fr ts,dt]
theorem sK {α:Type}(p:α->Bool):∀ l:List α,(l.filter p).length+(l.filter fun x=>!p x).length=l.length
 | []=>rfl
 | x::l=>by
  have ih:=sK p l;by_cases h:p x=true
  ·rw[dq h,di (by simp[h]),a9,a9];omega
  ·rw[di h,dq (by simp[h]),a9,a9];omega
theorem xK {E:List W}:∀ {ts:List W},ts.Nodup->(ts.map (cnt beg E)).sum<=E.length
 | [],_=>by simp
 | t::ts,nd=>by
  rw[ck] at nd;have ih:=xK (E:=E.filter fun l=>!decide (beg l=t)) nd.2;rw[am,cg];have e:ts.map (cnt beg (E.filter fun l=>!decide (beg l=t)))=ts.map (cnt beg E):=bv fun u hu=>by
   unfold cnt;rw[j4]
   congr 1
   refine km fun l _=>?_
   by_cases h:beg l=u
   ·have hne:u≠t:=fun z=>nd.1 (z▸hu)
    simp[h,hne]
   ·simp[h]
  rw[e] at ih;have h2:=sK (fun l=>decide (beg l=t)) E;exact a5 (jp ih _) (lu h2)
theorem Vq {ts:List W}{g:W->List W}:nC ts g<=2 ^ (ts.map fun t=>(g t).length).sum:=a5 (db ..) (tT ts)
theorem jD {f:W->W}{v:W}:∀ {E:List W},(E.map f).count v=cnt f E v
 | []=>rfl
 | e::E=>by
  rw[am,rq,nI,jD];by_cases h:f e=v
  ·rw[if_pos (by rw[h];exact beq_self_eq_true v),if_pos h];omega
  ·rw[if_neg (by intro z;exact h (eq_of_beq z)),if_neg h];omega
theorem Ps {E:List W}{a b:W}:(E.map beg++[b]).Perm (E.map fin++[a])↔Bal E a b:=by
 rw[List.perm_iff_count];have e:∀ (x v:W),([x]:List W).count v=if v=x then 1 else 0:=fun x v=>by
  rw[rq,List.count_nil];by_cases h:v=x
  ·rw[if_pos h,if_pos (by rw[h];exact beq_self_eq_true x)]
  ·rw[if_neg h,if_neg (by intro z;exact h (eq_of_beq z).symm)]
 unfold Bal;constructor
 ·intro h v
  have:=h v
  rw[kq,kq,jD,jD,e,e] at this;exact this
 ·intro h v
  rw[kq,kq,jD,jD,e,e];exact h v
theorem Du {E us:List W}(hn:E.Nodup){a b:W}(h1:us.Perm E)(h2:Tr beg fin a us b):0<eN E a b:=ei ((hV rfl hn).mpr ⟨h1,h2⟩)
theorem Dq {E:List W}(hn:E.Nodup){a b:W}(h:0<eN E a b):Bal E a b:=b6 fun z=>by rw[oK hn z] at h;cases h
theorem zZ {E:List W}(hn:E.Nodup){a b t:W}(h:0<eN E a b)(ht:t≠a):eN E t b=0:=oK hn fun z=>by
 have h1:=Dq hn h t;have h2:=z t;rw[if_neg ht] at h1;rw[if_pos rfl] at h2;omega
end Dt
namespace Wd
def it (f:W->W):Nat->W->W
 | 0,w=>w
 | k+1,w=>f (it f k w)
section
variable {f:W->W}{L:List W}{w:W}{p:Nat}
end
section
variable {f:W->W}{r:W}{n:Nat}{L:List W}
theorem uF {p:W->Bool}{w0:W}:∀ {L:List W},L.Nodup->w0∈L->(∀ w∈L,p w=true↔w=w0)->L.filter p=[w0]
 | [],_,h,_=>by simp at h
 | x::L,hnd,hm,hp=>by
  rw[ck] at hnd;by_cases e:x=w0
  ·subst e
   have hx:=(hp x (ar ..)).mpr rfl;rw[cu,if_pos hx]
   have:L.filter p=[]:=gn.mpr fun y hy z=>by
    have:=(hp y (ah _ hy)).mp z
    exact hnd.1 (this▸hy)
   rw[this]
  ·have hx:¬ p x=true:=fun z=>e ((hp x (ar ..)).mp z)
   rw[cu,if_neg hx];have hm':w0∈L:=by
    rcases aw.mp hm with z | z
    ·exact absurd z.symm e
    ·exact z
   exact uF hnd.2 hm' fun w hw=>hp w (ah _ hw)
end
open Hg
def dQ (w:W):Nat:=w.getD (w.length-1) 0
section
variable {ms us xs ys:List W}{p q r t e w0:W}{n:Nat}
theorem xL {w:W}(h:1<=w.length):w=beg w++[dQ w]:=by
 unfold beg dQ
 conv=>lhs;rw[<- oq (w.length-1) w]
 congr 1
 rw[ft (by omega),List.drop_eq_nil_of_le (by omega),aj,aa (by omega)];rfl
theorem Qv {w:W}:(beg w).length=w.length-1:=by unfold beg;rw[cb];omega
theorem tN (hn:1<=n):∀ (k:Nat) {us:List W} {p q:W},us.length=k->Tr beg fin p us q->p.length=n-1->(∀ w∈us,w.length=n)->fS (p++us.map dQ) n=us∧(p++us.map dQ).drop us.length=q
 | 0,us,p,q,hk,h,hp,hl=>by
  obtain rfl:us=[]:=bx.mp hk;refine⟨?_,?_⟩
  ·unfold fS
   rw[g7,dv,hp,show n-1+1-n=0 by omega];rfl
  ·rw[g7,dv,gj,fk];exact h
 | k+1,us,p,q,hk,h,hp,hl=>by
  have hne:us≠[]:=fun z=>by rw[z] at hk;cases hk
  obtain⟨xs,w,rfl⟩:∃ xs w,us=xs++[w]:=⟨us.dropLast,us.getLast hne,(iz hne).symm⟩;obtain⟨t1,rfl⟩:=Tr.cut (p:=p) h;rw[aq,b7] at hk;obtain⟨h1,h2⟩:=tN hn k (by omega) t1 hp fun w hw=>hl w (gc _ hw)
  have hw:=hl w (by simp);have hlen:(p++xs.map dQ).length=n-1+xs.length:=by rw[aq,aR,hp]
  have e:p++(xs++[w]).map dQ=(p++xs.map dQ)++[dQ w]:=by rw[bn,<- gf];rfl
  have hs:=xL (w:=w) (by omega);refine⟨?_,?_⟩
  ·rw[e,Ju hn (by omega),h1,hlen,show n-1+xs.length+1-n=xs.length by omega,h2,<- hs]
  ·rw[e,aq,b7,<- List.drop_drop,iq (by omega),h2,<- hs]
   rfl
end
section
variable {ms us vs:List W}{p q m0 t:W}{n:Nat}
theorem lG {c d:Nat}{a b:W}:c::a<d::b↔c<d∨(c=d∧a<b):=List.cons_lt_cons_iff
end
end Wd
namespace Dt
open Wd Hg
theorem xX {α β:Type}{f:α->List β}{x:α}{l:List α}{k:Nat}:((x::l).flatMap f)[k]?=if k<(f x).length then (f x)[k]? else (l.flatMap f)[k-(f x).length]?:=by
 rw[dk,List.getElem?_append]
theorem zM {α β:Type}{f:α->List β}{l:List α}{k:Nat}:∀ pre:List α,((pre++l).flatMap f)[(pre.map fun x=>(f x).length).sum+k]?=(l.flatMap f)[k]?
 | []=>by rw[ll,g7];show (l.flatMap f)[0+k]?=_;rw[ix]
 | x::pre=>by
  rw[ff,xX,am,cg,if_neg (by omega),show (f x).length+(pre.map fun x=>(f x).length).sum+k-(f x).length=(pre.map fun x=>(f x).length).sum+k by omega];exact zM pre
def rk (b:W):List W->List W->Nat
 | _,[]=>0
 | E,w::us=>(((og E (beg w)).filter fun x=>decide (x<w)).map fun x=>eN (rm E x) (fin x) b).sum+rk b (rm E w) us
theorem oN {w:W}:∀ {l:List W},l.Pairwise (· < ·)->w∈l->∃ post,l=(l.filter fun x=>decide (x<w))++w::post
 | x::l,h,hw=>by
  rw[j5] at h;by_cases e:x=w
  ·subst e
   refine⟨l,?_⟩;rw[di (by simp[ge]),gn.mpr fun y hy z=>List.lt_asymm (h.1 y hy) (of_decide_eq_true z)];rfl
  ·have hwl:=(aw.mp hw).resolve_left (Ne.symm e)
   obtain⟨post,hp⟩:=oN h.2 hwl;refine⟨post,?_⟩;rw[dq (by exact decide_eq_true (h.1 w hwl)),ff,<- hp]
theorem Co {E:List W}(hn:E.Nodup)(hs:E.Pairwise fun x y=>¬ y<x):E.Pairwise (· < ·):=by
 refine qa (fun a b h1 h2=>?_) hs hn;exact b6 fun z=>h2 (le a b z h1)
theorem Et:∀ {n:Nat} {E:List W} {a b:W} {us:List W},E.length=n->E.Nodup->E.Pairwise (fun x y=>¬ y<x)->us.Perm E->Tr beg fin a us b->(gM n E a b)[rk b E us]?=some us
 | 0,E,a,b,us,hl,_,_,hp,ht=>by
  obtain rfl:=bx.mp hl;obtain rfl:=mw.mp hp;have e:a=b:=ht;show (if a=b then [[]] else ([]:List (List W)))[0]?=_;rw[if_pos e];rfl
 | n+1,E,a,b,us,hl,hn,hs,hp,ht=>by
  cases us with
  | nil=>rw[<- hp.length_eq] at hl;cases hl
  | cons w vs =>
   have hwE:w∈E:=hp.mem_iff.mp (ar ..);have hwb:beg w=a:=ht.1;have hl':(rm E w).length=n:=by have:=gH hn hwE;omega
   have ih:=Et (a:=fin w) (b:=b) hl' (gF hn) (hs.filter _) (hp.trans (hZ hn hwE)).cons_inv ht.2;have hasc:(og E a).Pairwise (· < ·):=(Co hn hs).filter _;obtain⟨post,hpost⟩:=oN hasc (bZ.mpr ⟨hwE,hwb⟩);show ((og E a).flatMap fun w=>(gM n (rm E w) (fin w) b).map fun us=>w::us)[(((og E (beg w)).filter fun x=>decide (x<w)).map fun x=>eN (rm E x) (fin x) b).sum+rk b (rm E w) vs]?=_;rw[hwb];have e1:((og E a).filter fun x=>decide (x<w)).map (fun x=>eN (rm E x) (fin x) b)=((og E a).filter fun x=>decide (x<w)).map fun x=>((gM n (rm E x) (fin x) b).map fun us=>x::us).length:=bv fun x hx=>by
    have:=gH hn (bZ.mp (d8.mp hx).1).1
    rw[aR];unfold eN;rw[show (rm E x).length=n by omega]
   rw[e1];generalize hpre:(og E a).filter (fun x=>decide (x<w))=pre at hpost;rw[hpost,zM pre,xX];have hlt:rk b (rm E w) vs<(gM n (rm E w) (fin w) b).length:=(ag.mp ih).1;rw[aR,if_pos hlt,al,ih];rfl
theorem Uo {E us:List W}{a b:W}(hn:E.Nodup)(hs:E.Pairwise fun x y=>¬ y<x)(hp:us.Perm E)(ht:Tr beg fin a us b):rk b E us<eN E a b:=(ag.mp (Et rfl hn hs hp ht)).1
theorem Dp {E us:List W}{a b:W}{k:Nat}(hn:E.Nodup)(h:(gM E.length E a b)[k]?=some us):us.Perm E∧Tr beg fin a us b:=(hV rfl hn).mp (ay h)
theorem Nx {p x y:W}:p++x<p++y↔x<y:=by
 induction p with
 | nil=>exact Iff.rfl
 | cons c p ih =>
  rw[ff,ff,lG];constructor
  ·rintro (h | h)
   ·omega
   ·exact ih.mp h.2
  ·intro h
   exact .inr ⟨rfl,ih.mpr h⟩
theorem Qw {w v:W}(h1:1<=w.length)(h2:1<=v.length)(hb:beg w=beg v)(h:w<v):dQ w<dQ v:=by
 rw[xL h1,xL h2,hb,Nx,lG] at h;rcases h with h | h
 ·exact h
 ·exact absurd h.2 (ge _)
theorem Mj:∀ {n:Nat} {E:List W} {a b:W},E.length=n->E.Nodup->E.Pairwise (fun x y=>¬ y<x)->(∀ w∈E,1<=w.length)->(gM n E a b).Pairwise fun us vs=>us.map dQ<vs.map dQ
 | 0,E,a,b,_,_,_,_=>by
  show (if a=b then [[]] else ([]:List (List W))).Pairwise _;split <;> simp
 | n+1,E,a,b,hl,hn,hs,hlen=>by
  show ((og E a).flatMap fun w=>(gM n (rm E w) (fin w) b).map fun us=>w::us).Pairwise _;rw[List.pairwise_flatMap];refine⟨fun w hw=>?_,?_⟩
  ·have hwE:=(bZ.mp hw).1
   refine dy.mpr ((Mj (by have:=gH hn hwE;omega) (gF hn) (hs.filter _) fun x hx=>hlen x (gB.mp hx).1).imp fun {us vs} h=>?_);rw[am,am,lG];exact .inr ⟨rfl,h⟩
  ·refine gb (fun {w v} hw hv h us hu vs hv'=>?_) ((Co hn hs).filter _)
   obtain⟨us',_,rfl⟩:=au.mp hu;obtain⟨vs',_,rfl⟩:=au.mp hv';obtain⟨hw1,hw2⟩:=bZ.mp hw;obtain⟨hv1,hv2⟩:=bZ.mp hv;rw[am,am,lG];exact .inl (Qw (hlen w hw1) (hlen v hv1) (hw2.trans hv2.symm) h)
section
variable {m0:W}{us vs ms:List W}{n:Nat}
end
def reF (p q x:W):W:=if p=q then x else q
def rcF (ms:List W)(p q x:W):Nat:=eN ms x (reF p q x)
def rws (ms:List W)(p q:W)(ps:List W):List (W×List W):=ps.flatMap fun x=>(gM ms.length ms x (reF p q x)).map fun us=>(x,us)
def rX (r:W×List W):W:=r.1++r.2.map dQ
def rn (ms:List W)(p q:W)(ps:List W)(x:W)(us:List W):Nat:=((ps.filter fun y=>decide (y<x)).map (rcF ms p q)).sum+rk (reF p q x) ms us
section
variable {ms us ps:List W}{p q x m0:W}{n k:Nat}
theorem Gm:reF p p x=x:=if_pos rfl
theorem Lc (h:p≠q):reF p q x=q:=if_neg h
theorem Fn (hn:ms.Nodup)(hm:m0∈ms):rcF ms p p x=cnt beg ms x*eN (rm ms m0) (fin m0) (beg m0):=by
 unfold rcF;rw[Gm];exact xC hn hm
theorem Ij (hn:ms.Nodup)(hm:m0∈ms)(hu:us.Perm ms)(ht:Tr beg fin p us p):0<eN (rm ms m0) (fin m0) (beg m0):=by
 have h1:=Du hn hu ht;rw[xC hn hm] at h1;exact Nat.pos_of_mul_pos_left h1
theorem tY (hn:ms.Nodup)(hm:m0∈ms)(hu:us.Perm ms)(ht:Tr beg fin p us q)(hpq:p≠q):eN (rm ms m0) (fin m0) (beg m0)=0:=by
 apply b6;intro z;have h1:0<eN ms (beg m0) (beg m0):=by
  rw[xC hn hm];refine rh ?_ (j3 z);exact ei (bZ.mpr ⟨hm,rfl⟩)
 have hb:=Py (Dq hn h1) q;have h3:=Du hn hu ht;have h2:=zZ hn h3 (t:=q) (fun e=>hpq e.symm);have hb2:Bal ms p q:=Dq hn h3;have e1:=hb p;have e2:=hb2 p;rw[if_pos rfl,if_neg (fun e=>hpq e)] at e2;rw[if_neg (fun e=>hpq e)] at e1;omega
theorem Rt (hpq:p≠q):rcF ms p q p=eN ms p q:=by
 unfold rcF;rw[Lc hpq]
theorem Am (hn:ms.Nodup)(hu:us.Perm ms)(ht:Tr beg fin p us q)(hpq:p≠q)(hx:x≠p):rcF ms p q x=0:=by
 unfold rcF;rw[Lc hpq];exact zZ hn (Du hn hu ht) hx
theorem xS {f:W->Nat}:∀ {ps:List W},ps.Nodup->p∈ps->(∀ x∈ps,x≠p->f x=0)->(ps.map f).sum=f p
 | [],_,h,_=>nomatch h
 | y::l,hn,h,hf=>by
  obtain⟨h1,h2⟩:=ck.mp hn;rw[am,cg];by_cases e:y=p
  ·subst e
   have:(l.map f).sum=0:=by
    have hz:∀ x∈l,f x=0:=fun x hx=>hf x (ah _ hx) fun z=>h1 (z▸hx)
    rw[jR (c:=0) hz,lx]
   omega
  ·rw[hf y (ar ..) e,xS h2 ((aw.mp h).resolve_left fun z=>e z.symm) fun x hx=>hf x (ah _ hx)]
   omega
theorem Mt (hn:ms.Nodup)(hu:us.Perm ms)(ht:Tr beg fin p us q)(hpq:p≠q)(hps:ps.Nodup)(hp:p∈ps):(ps.map (rcF ms p q)).sum=eN ms p q:=by
 rw[xS hps hp fun x _ hx=>Am hn hu ht hpq hx,Rt hpq]
theorem Hq:∀ {ms ps:List W},ps.Nodup->(∀ w∈ms,beg w∈ps)->(ps.map (cnt beg ms)).sum=ms.length
 | [],ps,_,_=>by
  have h0:∀ w∈ps,cnt beg [] w=0:=fun _ _=>rfl
  rw[jR h0,lx];rfl
 | w::l,ps,hn,h=>by
  have e:∀ v,cnt beg (w::l) v=(if beg w=v then 1 else 0)+cnt beg l v:=fun v=>by
   unfold cnt;rw[cu];by_cases hv:beg w=v
   ·rw[if_pos (decide_eq_true hv),if_pos hv,a9]
    omega
   ·rw[if_neg (fun z=>hv (of_decide_eq_true z)),if_neg hv]
    omega
  have hs:∀ (qs:List W),(qs.map (cnt beg (w::l))).sum=(qs.map fun v=>if beg w=v then 1 else 0).sum+(qs.map (cnt beg l)).sum:=by
   intro qs
   induction qs with
   | nil=>rfl
   | cons y qs ih =>
    rw[am,am,am,cg,cg,cg,ih,e y];omega
  rw[hs,Hq hn fun v hv=>h v (ah _ hv),xS (p:=beg w) hn (h w (ar ..)) fun x _ hx=>if_neg fun z=>hx z.symm,if_pos rfl,a9];omega
theorem By (hn:ms.Nodup)(hm:m0∈ms)(hps:ps.Nodup)(hc:∀ w∈ms,beg w∈ps):(ps.map (rcF ms p p)).sum=ms.length*eN (rm ms m0) (fin m0) (beg m0):=by
 rw[bv (fun x _=>(Fn hn hm (x:=x)).trans (c9 _ _)),sA,Hq hps hc,c9]
theorem Hd:(rws ms p q ps).length=(ps.map (rcF ms p q)).sum:=by
 unfold rws;rw[ph]
 congr 1
 refine bv fun x _=>?_
 rw[aR];rfl
theorem Gp:(rws ms p q (x::ps))[k]?=if k<rcF ms p q x then ((gM ms.length ms x (reF p q x))[k]?).map fun us=>(x,us) else (rws ms p q ps)[k-rcF ms p q x]?:=by
 unfold rws;rw[xX,aR,al];rfl
theorem Fh (hn:ms.Nodup){r:W×List W}(h:r∈rws ms p q ps):r.1∈ps∧r.2.Perm ms∧Tr beg fin r.1 r.2 (reF p q r.1):=by
 unfold rws at h;obtain⟨x,hx,h⟩:=jm.mp h;obtain⟨us,hu,rfl⟩:=au.mp h;exact⟨hx,(hV rfl hn).mp hu⟩
theorem Ng (hn:ms.Nodup)(hs:ms.Pairwise fun x y=>¬ y<x)(hps:ps.Pairwise (· < ·))(hx:x∈ps)(hu:us.Perm ms)(ht:Tr beg fin x us (reF p q x)):(rws ms p q ps)[rn ms p q ps x us]?=some (x,us):=by
 obtain⟨post,hpost⟩:=oN hps hx;have h1:=Et rfl hn hs hu ht;have h2:=Uo hn hs hu ht;unfold rn;have e1:=@zM _ _ (fun x=>(gM ms.length ms x (reF p q x)).map fun us=>(x,us)) (x::post) (rk (reF p q x) ms us) (ps.filter fun y=>decide (y<x));rw[<- hpost] at e1;have e2:((ps.filter fun y=>decide (y<x)).map fun x=>((gM ms.length ms x (reF p q x)).map fun us=>(x,us)).length)=(ps.filter fun y=>decide (y<x)).map (rcF ms p q):=bv fun y _=>by rw[aR];rfl
 rw[e2] at e1;unfold rws;rw[e1];have e3:=@Gp ms post p q x (rk (reF p q x) ms us);unfold rws at e3;rw[e3,if_pos (show _<rcF ms p q x from h2),h1];rfl
theorem Se {x y a b:W}(h:x<y)(hl:x.length=y.length):x++a<y++b:=by
 induction x generalizing y with
 | nil =>
  cases y with
  | nil=>exact absurd h (ge _)
  | cons _ _=>cases hl
 | cons c x ih =>
  cases y with
  | nil=>cases hl
  | cons d y =>
   rw[ff,ff,lG];rcases (lG).mp h with h1 | ⟨h1,h2⟩
   ·exact .inl h1
   ·exact .inr ⟨h1,ih h2 (Nat.succ.inj hl)⟩
theorem Fm (hn:ms.Nodup)(hs:ms.Pairwise fun x y=>¬ y<x)(hl:∀ w∈ms,1<=w.length):∀ {ps:List W},ps.Pairwise (· < ·)->(∀ x∈ps,x.length=k)->(rws ms p q ps).Pairwise fun r s=>rX r<rX s
 | [],_,_=>qj
 | x::ps,hps,hk=>by
  obtain⟨h1,h2⟩:=j5.mp hps;show ((x::ps).flatMap _).Pairwise _;rw[dk,List.pairwise_append];refine⟨?_,Fm hn hs hl h2 fun y hy=>hk y (ah _ hy),?_⟩
  ·rw[dy]
   exact (Mj rfl hn hs hl).imp fun h=>Nx.mpr h
  ·rintro r hr s hs'
   obtain⟨us,_,rfl⟩:=au.mp hr;have hm:=(Fh hn hs').1;exact Se (h1 _ hm) (by rw[hk x (ar ..),hk _ (ah _ hm)])
theorem Ol {L:List (W×List W)}(h:L.Pairwise fun r s=>rX r<rX s){i j:Nat}{r:W×List W}(hi:L[i]?=some r)(hj:L[j]?=some r):i=j:=by
 have key:∀ {i j:Nat},L[i]?=some r->L[j]?=some r->¬ i<j:=fun {i j} hi hj hlt=>by
  obtain⟨h1,e1⟩:=ag.mp hi;obtain⟨h2,e2⟩:=ag.mp hj
  have:=gy.mp h i j h1 h2 hlt
  rw[e1,e2] at this;exact absurd this (ge _)
 have a:=key hi hj;have b:=key hj hi;omega
theorem Uu (hn:ms.Nodup)(hs:ms.Pairwise fun x y=>¬ y<x)(hl:∀ w∈ms,1<=w.length)(hps:ps.Pairwise (· < ·)){j:Nat}(hk:∀ x∈ps,x.length=k)(h:(rws ms p q ps)[j]?=some (x,us)):rn ms p q ps x us=j:=by
 obtain⟨h1,h2,h3⟩:=Fh hn (ay h);exact Ol (Fm hn hs hl hps hk) (Ng hn hs hps h1 h2 h3) h
end
end Dt
namespace L2
open PySem PySem.Spec PyProof.Rows
def tx (l:List Nat):Str:=⟨l.toArray⟩
abbrev T (l:List Nat):V:=.str (tx l)
theorem gA (l:List Nat):(tx l).length=l.length:=by simp[tx,Str.length]
theorem dH (l:List Nat):(tx l).cps.toList=l:=by simp[tx]
theorem kB (x:Str):tx x.cps.toList=x:=by cases x;simp[tx]
theorem fZ {a b:List Nat}(h:tx a=tx b):a=b:=by
 have e:=congrArg (fun x:Str=>x.cps.toList) h
 simpa [tx] using e
theorem Uv {a b:List Nat}(h:T a=T b):a=b:=fZ (V.str.inj h)
theorem Ro {a b:List Nat}:decide (T a=T b)=decide (a=b):=by
 rw[c7,decide_eq_true_iff,decide_eq_true_iff];exact⟨Uv,fun h=>by rw[h]⟩
theorem Tc (a b:List Nat):tx a++tx b=tx (a++b):=by
 rw[<- kB (tx a++tx b),PySem.W.KT.app_list,dH,dH]
section
variable {X:Cx}
theorem iP:OpR X (binaryOp .Add) (fun x y H Q=>∃ a,x=T a∧∃ b,y=T b∧a.length+b.length<=sizeLine∧Q (T (a++b)) H):=by
 intro pins s σ H x y v u Q I rx ry h;obtain⟨a,e1,b,e2,hz,q⟩:=h;exact De pins s σ H x y v u Q I rx ry ⟨tx a,tx b,e1,e2,by rw[gA,gA];exact hz,by rw[Tc];exact q⟩
theorem Gd:OpR X (compareOp .Lt) (fun x y H Q=>∃ a,x=T a∧∃ b,y=T b∧Q (.bl (decide (a<b))) H):=by
 intro pins s σ H x y v u Q I rx ry h;obtain⟨a,e1,b,e2,q⟩:=h;exact Iz pins s σ H x y v u Q I rx ry ⟨tx a,tx b,e1,e2,by rw[dH,dH];exact q⟩
theorem Pj:OpR X (compareOp .GtE) (fun x y H Q=>∃ a,x=T a∧∃ b,y=T b∧Q (.bl (!decide (a<b))) H):=by
 intro pins s σ H x y v u Q I rx ry h;obtain⟨a,rfl,b,rfl,q⟩:=h;obtain⟨t,rfl⟩:=rx;obtain⟨t',rfl⟩:=ry;exact PySem.P.ge_str (bO I q (by rw[dH,dH]))
theorem nK:OpR X (compareOp .Eq) (fun x y H Q=>∃ a,x=T a∧∃ b,y=T b∧Q (.bl (decide (a=b))) H):=by
 intro pins s σ H x y v u Q I rx ry h;obtain⟨a,rfl,b,rfl,q⟩:=h;exact Ry pins s σ H _ _ v u Q I rx ry ⟨rfl,by rw[Ro];exact q⟩
theorem Fx:OpR X (compareOp .NotEq) (fun x y H Q=>∃ a,x=T a∧∃ b,y=T b∧Q (.bl (!decide (a=b))) H):=by
 intro pins s σ H x y v u Q I rx ry h;obtain⟨a,rfl,b,rfl,q⟩:=h;exact Rm pins s σ H _ _ v u Q I rx ry ⟨rfl,by rw[Ro];exact q⟩
theorem eT:OpR X (compareOp .Eq) (fun x y H Q=>∃ a,x = .int a∧∃ b,y = .int b∧Q (.bl (decide (a=b))) H):=by
 intro pins s σ H x y v u Q I rx ry h;obtain⟨a,rfl,b,rfl,q⟩:=h;exact Ry pins s σ H _ _ v u Q I rx ry ⟨rfl,by rw[rF,ou];exact q⟩
theorem lM:OpR X (compareOp .NotEq) (fun x y H Q=>∃ a,x = .int a∧∃ b,y = .int b∧Q (.bl (!decide (a=b))) H):=by
 intro pins s σ H x y v u Q I rx ry h;obtain⟨a,rfl,b,rfl,q⟩:=h;exact Rm pins s σ H _ _ v u Q I rx ry ⟨rfl,by rw[rF,ou];exact q⟩
def gC (l:List Nat)(lo hi:Option Int):List Nat:=(l.drop (HT.sIx l.length 0 lo)).take (HT.sIx l.length l.length hi-HT.sIx l.length 0 lo)
theorem nF (v:Option Int)(n d:Nat):(match v with | none=>(d:Int) | some i=>max 0 (min (if i<0 then i+(n:Int) else i) (n:Int)))=((HT.sIx n d v:Nat):Int):=by
 cases v with
 | none=>rfl
 | some i =>
  show max 0 (min (if i<0 then i+(n:Int) else i) (n:Int))=(((if i<0 then (i+(n:Int)).toNat else min i.toNat n):Nat):Int);by_cases hi:i<0
  ·simp only [if_pos hi];omega
  ·simp only [if_neg hi];omega
theorem Bb (lo hi:Option Int)(n:Nat):Builtin.Str.strSliceIndices lo hi 1 n=Builtin.Str.strSliceIndices (some ((HT.sIx n 0 lo:Nat):Int)) (some ((HT.sIx n n hi:Nat):Int)) 1 n:=by
 have h1:=HT.rS n 0 (b8 _) lo;have h2:=HT.rS n n (af _) hi;have c1:=nF lo n 0;have c2:=nF hi n n;have d1:=nF (some ((HT.sIx n 0 lo:Nat):Int)) n 0;have d2:=nF (some ((HT.sIx n n hi:Nat):Int)) n n;rw[HT.eG,eh h1] at d1;rw[HT.eG,eh h2] at d2;unfold Builtin.Str.strSliceIndices;simp only [show ((1:Int)>0) from by decide,if_true];have g:∀ a b c d:Int,a=c->b=d->sliceRange a b 1=sliceRange c d 1:=fun a b c d h1 h2=>by rw[h1,h2]
 exact g _ _ _ _ (c1.trans d1.symm) (c2.trans d2.symm)
theorem Ld (l:List Nat)(lo hi:Option Int):Txt.slice (tx l) lo hi=tx (gC l lo hi):=by
 have h1:=HT.rS l.length 0 (b8 _) lo;have h2:=HT.rS l.length l.length (af _) hi;unfold Txt.slice;rw[gA,Bb];by_cases hab:HT.sIx l.length 0 lo<=HT.sIx l.length l.length hi
 ·have e:=StrLaws.sliceText_nat (tx l) hab (by rw[gA];exact h2)
  unfold StrLaws.sliceText at e;rw[gA,dH] at e;exact e
 ·have e0:Builtin.Str.strSliceIndices (some ((HT.sIx l.length 0 lo:Nat):Int)) (some ((HT.sIx l.length l.length hi:Nat):Int)) 1 l.length=[]:=by
   unfold Builtin.Str.strSliceIndices sliceRange;have n1:¬ (((HT.sIx l.length 0 lo:Nat):Int)<0):=by omega
   have n2:¬ (((HT.sIx l.length l.length hi:Nat):Int)<0):=by omega
   simp only [show ((1:Int)>0) from by decide,if_true,if_neg n1,if_neg n2];have n3:¬ (max (0:Int) (min ((HT.sIx l.length 0 lo:Nat):Int) (l.length:Int))<max (0:Int) (min ((HT.sIx l.length l.length hi:Nat):Int) (l.length:Int))):=by omega
   simp[n3]
  have e1:gC l lo hi=[]:=by
   unfold gC;rw[show HT.sIx l.length l.length hi-HT.sIx l.length 0 lo=0 by omega,jg]
  rw[e0,e1]
  cases l with
  | nil=>rfl
  | cons c r=>rfl
theorem mV:SlR X (fun x lo hi H Q=>∃ a,x=T a∧a.length<=sizeLine∧Q (T (gC a lo hi)) H):=by
 intro pins s σ H x v vl vu lo hi sl Q I rx hs pl pu h;obtain⟨a,rfl,hz,q⟩:=h;obtain⟨t,rfl⟩:=rx;obtain⟨l,hl1,hl2⟩:∃ l:Option (Int×Tok),partValue l=vl∧l.map (·.1)=lo:=by
  cases pl with
  | none=>exact⟨none,rfl,rfl⟩
  | int i t=>exact⟨some (i,t),rfl,rfl⟩
 obtain⟨u,hu1,hu2⟩:∃ u:Option (Int×Tok),partValue u=vu∧u.map (·.1)=hi:=by
  cases pu with
  | none=>exact⟨none,rfl,rfl⟩
  | int i t=>exact⟨some (i,t),rfl,rfl⟩
 refine⟨"str",_,F.slot_str_getitem.lookup,typeIs_str _ _ _,?_⟩
 have hsl:s.heap.IsSlice sl l u none:=by
  obtain⟨o,ho,hc,hd⟩:=hs;exact⟨o,ho,hc,by rw[hl1,hu1];exact hd⟩
 refine wpAny_getItem_str_slice hsl rfl ?_;have key:(if ((1:Int)==1&&(Builtin.Str.strSliceIndices lo hi 1 (tx a).length).length==(tx a).length)=true then (tx a) else ⟨((Builtin.Str.strSliceIndices lo hi 1 (tx a).length).filterMap ((tx a).cps[·]?)).toArray⟩)=tx (gC a lo hi):=Ld a lo hi;unfold sliceMade slicePicked;rw[hl2,hu2];refine post_val_or_str ⟨?_,fun t' k=>?_⟩
 ·show (Txt.slice (tx a) lo hi).length<=sizeLine
  exact a5 (Txt.slice_le _ _ _) (by rw[gA];exact hz)
 ·refine⟨T (gC a lo hi),H,I.tok _,⟨t',?_⟩,q⟩
  exact congrArg (fun z=>Value.str z t') key
theorem Ej (n:Nat)(l:List Nat):(Wd.rep n l).length=n*l.length:=Wd.lK n l
theorem Iq (n:Nat)(c:Array Nat):∀ acc:Array Nat,(kf n c).foldl (· ++ ·) acc=acc++(Wd.rep n c.toList).toArray:=by
 induction n with
 | zero=>intro acc;simp[Wd.rep]
 | succ n ih =>
  intro acc;rw[jq,oj,ih];rw[Wd.mW,l0]
  congr 1
  apply Array.ext';simp
theorem Sd (n:Nat)(l:List Nat):Txt.mul (tx l) (n:Int)=tx (Wd.rep n l):=by
 unfold Txt.mul;by_cases h1:(n:Int)<1
 ·have e:n=0:=by omega
  subst e;rw[if_pos h1];rfl
 ·rw[if_neg h1]
  by_cases h2:((n:Int)==1||(tx l).length==0)=true
  ·rw[if_pos h2]
   rw[iy,beq_iff_eq,beq_iff_eq,gA] at h2;rcases h2 with h2 | h2
   ·have e:n=1:=by omega
    subst e;rw[Wd.rC]
   ·have e:l=[]:=bx.mp h2
    subst e
    have:Wd.rep n []=[]:=bx.mp (by rw[Ej];simp)
    rw[this]
  ·rw[if_neg h2,c8,Iq]
   simp[tx]
theorem Bx:OpR X (binaryOp .Mult) (fun x y H Q=>∃ a,x=T a∧∃ n:Nat,y = .int n∧(n<=sizeLine∧n*a.length<=sizeLine)∧Q (T (Wd.rep n a)) H):=by
 intro pins s σ H x y v u Q I rx ry h;obtain⟨a,rfl,n,rfl,⟨h1,h2⟩,q⟩:=h;obtain⟨t,rfl⟩:=rx;obtain⟨t',rfl⟩:=ry;have hs:sizeLine=16777216:=sizeLine_eq;refine SB.mul ⟨?_,?_,?_⟩ fun t' k=>⟨T (Wd.rep n a),H,I.tok _,⟨t',by rw[Sd]⟩,q⟩
 ·have e1:decide ((n:Int) < -(2 ^ 63:Int))=false:=decide_eq_false (by omega)
  have e2:decide ((n:Int)≥2 ^ 63)=false:=decide_eq_false (by omega);rw[e1,e2];rfl
 ·intro hn _
  rw[gA];have h3:n*a.length<=16777216:=by omega
  intro hc;have h4:((n*a.length:Nat):Int)<=16777216:=by omega
  have hn':(0:Int)<n:=by omega
  have h5:((2 ^ 63-1)/(n:Int))*n<=2 ^ 63-1:=Int.ediv_mul_le _ (by omega);have h6:(2 ^ 63-1:Int)<((2 ^ 63-1)/(n:Int)+1)*n:=Int.lt_ediv_add_one_mul_self _ hn';have h7:((2 ^ 63-1)/(n:Int)+1)*n<=(a.length:Int)*n:=k7 (by omega) (by omega);have h8:((n*a.length:Nat):Int)=(a.length:Int)*n:=by rw[eg,fz]
  omega
 ·intro hn _
  rw[gA,c8,c9];unfold Builtin.Str.tooLong;exact decide_eq_false (by omega)
theorem oY:∀ {ls:List (List Nat)} {us:List Value},bR (ls.map T) us->StrsAre us (ls.map tx)
 | [],us,r=>by
  cases r;exact .nil
 | l::ls,us,r=>by
  rw[am] at r
  cases r with
  | cons r1 r2 =>
   obtain⟨t,rfl⟩:=r1;exact .cons _ _ (oY r2)
theorem qB:∀ (ls:List (List Nat)) (acc:Array Nat),(ls.map tx).foldl (fun acc p=>acc++(tx []).cps++p.cps) acc=acc++ls.flatten.toArray
 | [],acc=>by simp
 | l::ls,acc=>by
  rw[am,oj,qB ls];simp[tx]
theorem Qr (ls:List (List Nat)):Txt.join (tx []) (ls.map tx)=tx ls.flatten:=by
 unfold Txt.join Builtin.Str.glued
 cases ls with
 | nil=>rfl
 | cons l ls =>
  rw[am,List.drop_succ_cons,fk,List.headD_cons,qB];simp[tx]
theorem Cz (ls:List (List Nat)):((ls.map tx).map (·.length)).sum=ls.flatten.length:=by
 induction ls with
 | nil=>rfl
 | cons l ls ih=>rw[am,am,cg,ih,kh,aq,gA]
theorem Ph:MtR X "str.join" (fun x xs H Q=>x=T []∧∃ (p:Addr) (ls:List (List Nat)),xs=[.ref p]∧SqL X.K H p (ls.map T)∧ls.flatten.length<=sizeLine∧Q (T ls.flatten) H):=by
 intro pins s σ H x xs v us Q I rx rs h;obtain⟨rfl,p,ls,rfl,hq,hz,q⟩:=h;obtain⟨t,rfl⟩:=rx;obtain⟨u,rfl,ru⟩:=gD rs;cases ru;obtain⟨its,r,pl,_⟩:=I.list hq;have hs:sizeLine=16777216:=sizeLine_eq;refine join_list pl.isList (ys:=ls.map tx) (by simpa using oY r) ?_ fun t' k=>⟨T ls.flatten,H,I.tok _,⟨t',by rw[Qr]⟩,q⟩
 rw[Cz,gA,gj,lx];omega
end
end L2
namespace L2
theorem jE {w:List Nat}{k:Nat}(h:k<=w.length):gC w (some (k:Int)) none=w.drop k:=by
 unfold gC;rw[HT.eG,HT.fX,eh h];exact cq (by rw[b9];omega)
theorem Gf {w:List Nat}{k:Nat}(h:k<=w.length):gC w none (some (k:Int))=w.take k:=by
 unfold gC;rw[HT.eG,HT.fX,eh h,fk,ly]
theorem uO {w:List Nat}{a b:Nat}(hb:b<=w.length)(hab:a<=b):gC w (some (a:Int)) (some (b:Int))=(w.drop a).take (b-a):=by
 unfold gC;rw[HT.eG,HT.eG,eh hb,eh (show a<=w.length by omega)]
open PyProof.Rows PySem PySem.Spec
structure bS (N N':List Str)(sc scope:Scope)(x:Str):Prop where
 kind:scope.kind = .function
 cell:∀ y∈scope.names,y.2≠.cell
 names:∀ y∈scope.names,y.2 = .local->scope.names.lookup y.1=some .local
 var:scope.names.lookup x=some .local
 ok:∀ y∈scope.names,y.2 = .free->sc.names.lookup y.1=some .cell∨sc.names.lookup y.1=some .free
 hd:N'[0]?=some x
 len:N'.length=N.length+1
 sub:∀ i,i<N.length->N'[i+1]?=N[i]?∨(N'[i+1]?.map fun y=>scope.names.lookup y)=some none
 noe:scope.names.lookup ("" : Str)=none
 nol:∀ y∈N'.tail,scope.names.lookup y≠some .local
 nd:N'.Nodup
def dL (cells:List (Str×Addr)):List (Str×NameKind)->List (Str×Addr)->List (Str×Addr)
 | [],acc=>acc
 | (n,k)::r,acc=>dL cells r (if k == .free then (n,(cells.lookup n).getD 0)::acc else acc)
theorem mD {cells:List (Str×Addr)}{y:Str}{c:Addr}:∀ (names:List (Str×NameKind)) (acc:List (Str×Addr)),(∀ z∈names,z.2 = .free->∃ c,cells.lookup z.1=some c) ->
  (acc.lookup y=some c->cells.lookup y=some c)->(dL cells names acc).lookup y=some c->cells.lookup y=some c
 | [],acc,_,ha,h=>ha h
 | (n,k)::r,acc,hz,ha,h=>by
  unfold dL at h;refine mD r _ (fun z hm=>hz z (ah _ hm)) (fun q=>?_) h;split at q
  ·rename_i hk
   obtain⟨c',e⟩:=hz (n,k) ar (by simpa using hk);rw[ij] at q;split at q
   ·rename_i he
    have:y=n:=by simpa using he
    subst this;rw[e] at q;rw[e];exact q
   ·exact ha q
  ·exact ha q
theorem Ba {cells:List (Str×Addr)}{y:Str}:∀ (names:List (Str×NameKind)) (acc:List (Str×Addr)),(∃ c,acc.lookup y=some c)->∃ c,(dL cells names acc).lookup y=some c
 | [],acc,h=>h
 | (n,k)::r,acc,⟨c,h⟩=>by
  unfold dL;refine Ba r _ ?_;split
  ·rw[ij]
   split
   ·exact⟨_,rfl⟩
   ·exact⟨c,h⟩
  ·exact⟨c,h⟩
theorem sS {cells:List (Str×Addr)}{y:Str}:∀ (names:List (Str×NameKind)) (acc:List (Str×Addr)),(y,NameKind.free)∈names->∃ c,(dL cells names acc).lookup y=some c
 | (n,k)::r,acc,h=>by
  unfold dL;rcases aw.mp h with e | h
  ·cases e
   refine Ba r _ ⟨(cells.lookup y).getD 0,?_⟩;simp
  ·exact sS r _ h
theorem jA {scope:Scope}{env:Env}(h:∀ z∈scope.names,z.2 = .free->∃ c,env.cells.lookup z.1=some c):closureFor scope env=pure (dL env.cells scope.names []):=by
 have gen:∀ (names:List (Str×NameKind)) (acc:List (Str×Addr)),(∀ z∈names,z.2 = .free->∃ c,env.cells.lookup z.1=some c) ->
   (forIn names acc fun (x:Str×NameKind) (r:List (Str×Addr))=>(if (x.2==NameKind.free)=true then (do let a <- cellOf env x.1;pure (ForInStep.yield ((x.1,a)::r))) else pure (ForInStep.yield r):Sem (ForInStep (List (Str×Addr)))))=(pure (dL env.cells names acc):Sem (List (Str×Addr))):=by
  intro names
  induction names with
  | nil=>intro acc _;rfl
  | cons z r ih =>
   intro acc hz;obtain⟨n,k⟩:=z;rw[List.forIn_cons];unfold dL;by_cases hk:(k==NameKind.free)=true
   ·obtain⟨c,e⟩:=hz (n,k) ar (by simpa using hk)
    have e':env.cells.lookup n=some c:=e;simp only [hk,if_true,cellOf,e',pure_bind,Option.getD_some];exact ih _ fun z hm=>hz z (ah _ hm)
   ·simp only [hk,cm,if_false,pure_bind]
    exact ih _ fun z hm=>hz z (ah _ hm)
 have g:=gen scope.names [] h;unfold closureFor;refine Eq.trans ?_ (congrArg (fun (m:Sem (List (Str×Addr)))=>m >>= fun cs=>pure cs) g);rfl
theorem cL (scope:Scope)(env:Env)(y:Str):(relabel scope env).names.lookup y=(scope.names.lookup y).map fun k=>if (k==NameKind.free&&env.scope.kind == .function&&env.kindOf y==some .cell)=true then NameKind.cell else k:=by
 unfold relabel;show jd y (scope.names.map fun (n,k)=>if (k==NameKind.free&&env.scope.kind == .function&&env.kindOf n==some .cell)=true then (n,NameKind.cell) else (n,k))=_
 induction scope.names with
 | nil=>rfl
 | cons z r ih =>
  obtain⟨n,k⟩:=z;rw[am];by_cases hy:(y==n)=true
  ·have e:y=n:=by simpa using hy
   subst e;by_cases hc:(k==NameKind.free&&env.scope.kind == .function&&env.kindOf y==some .cell)=true
   ·simp only [hc,if_true,ij,beq_self_eq_true,lm]
   ·simp only [hc,if_false,ij,beq_self_eq_true,lm,cm]
  ·have hy':(y==n)=false:=by simpa using hy
   by_cases hc:(k==NameKind.free&&env.scope.kind == .function&&env.kindOf n==some .cell)=true
   ·simp only [hc,if_true,ij,hy']
    exact ih
   ·simp only [hc,if_false,ij,hy',cm]
    exact ih
theorem eR {κ:Type}:∀ {l:List (Str×κ)} {y:Str} {k:κ},l.lookup y=some k->(y,k)∈l:=fun h=>gl h
abbrev bU (X:Cx)(N':List Str)(scope:Scope)(cl:List (Str×Addr))(C:Addr)(s:Shared)(H:Hp)(fp:List Addr):Cx :=
 { X with env:=compEnvC scope cl C X.env,N:=N',s₀:=s,H₀:=H,outer:=X.stack,stack:=X.stack,ex:=fp,fn:=fun _=>false,xe:=fun _ _=>False }
abbrev Vn (cds:List Expr)(env:Env):Sem Bool:=forIn cds true fun c r=>if r=true then do let ok <- isTrue c env (eval c env);pure (ForInStep.yield ok) else pure (ForInStep.yield r)
def PTL (X:Cx)(cds:List Expr)(t:TT):Prop :=
 ∀ (pins:List (Addr×Obj)) (s:Shared) (σ:St) (H:Hp) (Q:Bool->Hp->Prop),Inv X pins σ H s->t σ H Q->wpAny (model X.prog X.w) X.A (Vn cds X.env) (TP X pins σ Q) X.xe s
theorem Hi {X:Cx}:PTL X [] (fun _ H k=>k true H):=fun pins s σ H Q I q=>wpAny_tests_nil ⟨H,I,q⟩
theorem Gc {X:Cx}{cd:Expr}{tc:TT}(h:PT X cd tc):PTL X [cd] tc:=fun pins s σ H Q I q=>wpAny_tests_one (h pins s σ H Q I q)
theorem lN {prog:Program}{w:World}{A:Around}{R:Result->Shared->Prop}{s:Shared}{elt target iter:Expr}{cds:List Expr}{scope:Scope}{pos:Pos}{it acc:Value}{env:Env}(I:Nat->Shared->Prop)
  (turn:∀ n s,I n s->wpAny (model prog w) A (pyNext it) (fun r s₁=>match r with
   | none=>R (.ok .next) s₁
   | some v=>wpAny (model prog w) A (letOwnedTupleGo target it v) (fun _ s₁'=>wpAny (model prog w) A (assign target env v) (fun _ s₂=>wpAny (model prog w) A (Vn cds env) (fun ok s₂' =>
    if ok=true then wpAny (model prog w) A (eval elt env) (fun x s₃ =>
     wpAny (model prog w) A (call (.builtin "list.append") [acc,x]) (fun _ s₄=>∃ m,m<n∧I m s₄) (fun _ _=>False) s₃) (fun _ _=>False) s₂'
    else ∃ m,m<n∧I m s₂') (fun _ _=>False) s₂) (fun _ _=>False) s₁') (fun _ _=>False) s₁) (fun _ _=>False) s)
  (n:Nat) (h:I n s) :
  codeAny (model prog w) A (.compLoop (.ListComp elt [⟨target,iter,cds,0⟩] scope pos) 0 it acc env) R s:=by
 refine codeAny_loop rfl I (fun n s hI=>?_) n h;show wpAny _ A ((compTurn (.ListComp elt [⟨target,iter,cds,0⟩] scope pos) 0 it acc env).onRaise (fun x=>do noteFrame x env;theTreesLotGoes x)) _ _ s;refine wpAny_noted ?_;rw[compTurn_list];refine wpAny_bind (wpAny_standAt (wpAny_bind (wpAny_mono (turn n s hI) (fun r s₁ h₁=>?_) fun _ _ h'=>h'.elim)))
 cases r with
 | none=>exact wpAny_pure h₁
 | some v =>
  refine wpAny_bind (wpAny_mono h₁ (fun _ s₀ h₀=>?_) fun _ _ h'=>h'.elim);refine wpAny_bind (wpAny_mono h₀ (fun _ s₂ h₂=>?_) fun _ _ h'=>h'.elim);refine wpAny_bind ((wpAny_mono h₂ (fun ok s₃ h₃=>?_) fun _ _ h'=>h'.elim))
  cases ok with
  | false=>exact wpAny_pure ⟨rfl,by simpa using h₃⟩
  | true =>
   have h₃':=h₃;simp only [if_true] at h₃';exact wpAny_bind (wpAny_bind (wpAny_mono h₃' (fun x s₄ h₄=>wpAny_bind (wpAny_mono h₄ (fun _ s₅ h₅=>wpAny_pure (wpAny_pure ⟨rfl,h₅⟩)) fun _ _ h'=>h'.elim)) fun _ _ h'=>h'.elim))
theorem kY {prog:Program}{w:World}{A:Around}{R:Result->Shared->Prop}{s:Shared}{elt target iter:Expr}{scope:Scope}{pos:Pos}{it acc:Value}{env:Env}(I:Nat->Shared->Prop)
  (turn:∀ n s,I n s->wpAny (model prog w) A (pyNext it) (fun r s₁=>match r with
   | none=>R (.ok .next) s₁
   | some v=>wpAny (model prog w) A (letOwnedTupleGo target it v) (fun _ s₁'=>wpAny (model prog w) A (assign target env v) (fun _ s₂=>wpAny (model prog w) A (eval elt env) (fun x s₃ =>
    wpAny (model prog w) A (call (.builtin "list.append") [acc,x]) (fun _ s₄=>∃ m,m<n∧I m s₄) (fun _ _=>False) s₃)
    (fun _ _=>False) s₂) (fun _ _=>False) s₁') (fun _ _=>False) s₁) (fun _ _=>False) s)
  (n:Nat) (h:I n s) :
  codeAny (model prog w) A (.compLoop (.ListComp elt [⟨target,iter,[],0⟩] scope pos) 0 it acc env) R s:=by
 refine codeAny_loop rfl I (fun n s hI=>?_) n h;show wpAny _ _ ((compTurn (.ListComp elt [⟨target,iter,[],0⟩] scope pos) 0 it acc env).onRaise (fun x=>do noteFrame x env;theTreesLotGoes x)) _ _ s;refine wpAny_noted ?_;rw[compTurn_list1];refine wpAny_bind (wpAny_standAt (wpAny_bind (wpAny_mono (turn n s hI) (fun r s₁ h₁=>?_) fun _ _ h'=>h'.elim)))
 cases r with
 | none=>exact wpAny_pure h₁
 | some v =>
  refine wpAny_bind (wpAny_mono h₁ (fun _ s₁' h₁'=>?_) fun _ _ h'=>h'.elim);exact wpAny_bind (wpAny_mono h₁' (fun _ s₂ h₂=>wpAny_bind (wpAny_bind (wpAny_mono h₂ (fun x s₃ h₃=>wpAny_bind (wpAny_mono h₃
   (fun _ s₄ h₄=>wpAny_pure (wpAny_pure ⟨rfl,h₄⟩)) fun _ _ h'=>h'.elim)) fun _ _ h'=>h'.elim))) fun _ _ h'=>h'.elim)
def jC (te:TE)(σ:St)(Q:VK)(J:It)(H1:Hp):Prop:=∀ D,H1 D=none->∃ W:Nat->Nat->List V->Hp->Prop,(∃ m,W 0 m [] (upd H1 D (.lst [])))∧∀ i m ys H2,W i m ys H2 ->
 (J.stop i H2∧Q (.ref D) H2)∨(J.go i H2∧ys.length<sizeLine∧∃ N:V->Hp->Prop,(∀ v H',N v H'->H' D=some (.lst ys)∧∃ m',m'<m∧W (i+1) m' (ys++[v]) (upd H' D (.lst (ys++[v])))) ∧
  ∀ y H',J.yld i H2 y H'->te (some y::σ) H' N)
def Rr (wi:TI)(te:TE):TE:=fun σ H Q=>wi σ H (jC te σ Q)
def iA (tc:TT)(te:TE)(σ:St)(Q:VK)(J:It)(H1:Hp):Prop:=∀ D,H1 D=none->∃ W:Nat->Nat->List V->Hp->Prop,(∃ m,W 0 m [] (upd H1 D (.lst [])))∧∀ i m ys H2,W i m ys H2 ->
 (J.stop i H2∧Q (.ref D) H2)∨(J.go i H2∧ys.length<sizeLine∧∃ N:V->Hp->Prop,(∀ v H',N v H'->H' D=some (.lst ys)∧∃ m',m'<m∧W (i+1) m' (ys++[v]) (upd H' D (.lst (ys++[v])))) ∧
  ∃ Nn:Hp->Prop,(∀ H',Nn H'->∃ m',m'<m∧W (i+1) m' ys H') ∧
  ∀ y H',J.yld i H2 y H'->tc (some y::σ) H' fun b H''=>if b=true then te (some y::σ) H'' N else Nn H'')
def Mo (wi:TI)(tc:TT)(te:TE):TE:=fun σ H Q=>wi σ H (iA tc te σ Q)
section
variable {X:Cx}{N':List Str}{scope:Scope}{x:Str}{px:Pos}{elt iter:Expr}{cds:List Expr}{pos:Pos}{te:TE}{tc:TT}{wi:TI}
theorem uM (S:bS X.N N' X.env.scope scope x)(hc:X.calm=true)(ht:∀ cl C s H fp,PTL (bU X N' scope cl C s H fp) cds tc)(he:∀ cl C s H fp,PE (bU X N' scope cl C s H fp) elt te)
  {pins:List (Addr×Obj)} {σ:St} {H:Hp} {s:Shared} {Q:VK} {E:Value->Shared->Prop} {RR:Value->Addr->Result->Shared->Prop} {it:Addr} {fp:List Addr} {tn:Nat->Heap->Prop} {J:It}
  (I:Inv X pins σ H s) (T:vE X.prog X.w X.K (.Name x px) J fp it tn) (st:tn 0 s.heap) (f2:∀ b∈fp,mT X pins H b)
  (hw:iA tc te σ Q J H)
  (hRR:∀ D C s' H',Inv X pins σ H' s'->(∃ m,s'.heap.Ns C m)->C≠X.env.locals->(∀ y c,X.env.cells.lookup y=some c->c≠C)->H' C=none->X.s₀.heap.objs.size<=C->(∀ p∈X.pn++pins,p.1≠C)->Q (.ref D) H'->RR (.ref D) C (.ok .next) s') :
  ∃ cl,closureFor scope X.env=pure cl∧wpAny (model X.prog X.w) X.A (newList []) (fun acc s₃=>wpAny (model X.prog X.w) X.A (newFunctionEnv scope X.env.globals cl [] X.env.qual none .none (some X.env)) (fun cenv s₄ =>
   codeAny (model X.prog X.w) X.A (.compStart (.ListComp elt [⟨.Name x px,iter,cds,0⟩] scope pos) 0 (.ref it) acc { cenv with scope:=relabel scope X.env }) (RR acc cenv.locals) s₄) E s₃) E s:=by
 have hfree:∀ z∈scope.names,z.2 = .free->∃ c,X.env.cells.lookup z.1=some c:=fun z hz hk=>by
  rcases S.ok z hz hk with q | q
  ·exact I.ok.has z.1 (.inl q)
  ·exact I.ok.has z.1 (.inr q)
 refine⟨_,jA hfree,?_⟩;have clS:∀ y c,(dL X.env.cells scope.names []).lookup y=some c->X.env.cells.lookup y=some c:=fun y c=>mD scope.names [] hfree fun q=>by cases q
 generalize hcl:dL X.env.cells scope.names []=cl at clS;have clH:∀ y,scope.names.lookup y=some .free->∃ c,cl.lookup y=some c:=fun y hy=>by
  rw[<- hcl];exact sS scope.names [] (eR hy)
 refine wpAny_newObj_type (wpAny_newFunctionEnv S.cell (by intro y hy;simp at hy) (fun h₁ hns₁ hsb₁=>?_) S.kind);have I3:Inv X pins σ (upd H s.heap.objs.size (.lst [])) { s with heap:=s.heap.push { cls:=.type "list",data:=.seq ([]:List Value).toArray } }:=I.lnew (t':=s.toks) .nil (b8 _)
 obtain⟨W,⟨m0,w0⟩,turn⟩:=hw s.heap.objs.size I.fresh
 dsimp only at hns₁ hsb₁ ⊢
 generalize hs3:({ s with heap:=s.heap.push { cls:=.type "list",data:=.seq ([]:List Value).toArray } }:Shared)=s3 at I3
 have hh3:s3.heap=s.heap.push { cls:=.type "list",data:=.seq ([]:List Value).toArray }:=by rw[<- hs3]
 have hsz3:s3.heap.objs.size=s.heap.objs.size+1:=by rw[hh3,Heap.size_push]
 rw[<- hh3] at hns₁ hsb₁ ⊢;have old:∀ b o,s3.heap.get? b=some o->h₁.get? b=some o:=fun b o e=>hsb₁.extBut b o (by have:=Heap.lt_size e;exact a7 this) (Heap.get?_push_of_some _ e)
 have old0:∀ b o,s.heap.get? b=some o->h₁.get? b=some o:=fun b o e=>old b o (by rw[hh3];exact Heap.get?_push_of_some _ e)
 have CneL:s3.heap.objs.size≠X.env.locals:=fh I3.lt;have CneC:∀ y c,X.env.cells.lookup y=some c->c≠s3.heap.objs.size:=fun y c e z=>by
  obtain⟨v,q⟩:=I3.cell y c e
  have:=q.lt
  rw[z] at this;exact absurd this (d7 _)
 have CneP:∀ p∈X.pn++pins,p.1≠s3.heap.objs.size:=fun p hp z=>by
  have:=Heap.lt_size (I3.pin p hp).1
  rw[z] at this;exact absurd this (d7 _)
 have CfreeH:∀ b o,s3.heap.get? b=some o->b<s3.heap.objs.size:=fun b o e=>by have:=Heap.lt_size e;exact this
 have fpLt:∀ b∈fp,b<s3.heap.objs.size:=fun b hb=>by
  obtain⟨o,e,_⟩:=T.obj 0 s.heap st b hb;rw[hsz3];exact dg (Heap.lt_size e)
 have fpD:∀ b∈fp,b≠s.heap.objs.size:=fun b hb=>by
  obtain⟨o,e,_⟩:=T.obj 0 s.heap st b hb;exact a7 (Heap.lt_size e)
 have ok':(bU X N' scope cl s3.heap.objs.size s3 (upd H s.heap.objs.size (.lst [])) fp).Ok:=by
  refine⟨I3.ok.mod,?_,I3.ok.glob,I3.ok.blt,af _,fun y z c h1 h2=>I3.ok.inj y z c (clS y c h1) (clS z c h2),fun y hy=>?_,fun y c hf=>(by cases hf),I3.ok.hd,I3.ok.frames,.inl rfl,fun b hb=>⟨a7 (fpLt b hb),fun y c e=>(f2 b hb).2.2.2.2.1 y c (clS y c e)⟩,
   fun b o e=>I3.bs b o e,a5 I3.ok.bsz I3.sz,fun b o e hb=>?_,fun b hb z=>?_,I3.stack,I3.stkFree⟩
  ·show (relabel scope X.env).kind = .function
   exact S.kind
  ·have hy':(relabel scope X.env).names.lookup y=some .cell∨(relabel scope X.env).names.lookup y=some .free:=hy
   rw[cL] at hy'
   cases q:scope.names.lookup y with
   | none=>rw[q] at hy';rcases hy' with z | z <;> cases z
   | some k =>
    have hm:=eR q
    cases k with
    | free=>exact clH y q
    | cell=>exact absurd rfl (S.cell _ hm)
    | «local» => rw[q] at hy';rcases hy' with z | z <;> simp at z
    | globalExplicit=>rw[q] at hy';rcases hy' with z | z <;> simp at z
    | globalImplicit=>rw[q] at hy';rcases hy' with z | z <;> simp at z
  ·rcases (f2 b hb).2.2.2.1 with z | z
   ·exact I.ok.noex b o e z
   ·exact absurd (bz (Heap.lt_size e) (a5 I.ok.bsz z)) (d7 _)
  ·rcases aw.mp (I3.stkSub b z) with q | q
   ·exact (f2 b hb).2.1 q
   ·exact (f2 b hb).2.2.1 q
 have fpOk':∀ {H':Hp},(∀ b∈fp,H' b=none)->∀ b∈fp,mT (bU X N' scope cl s3.heap.objs.size s3 (upd H s.heap.objs.size (.lst [])) fp) pins H' b:=fun hn b hb =>
  ⟨hn b hb,a7 (fpLt b hb),fun z=>by
   rcases aw.mp (I3.stkSub b z) with q | q
   ·exact (f2 b hb).2.1 q
   ·exact (f2 b hb).2.2.1 q,.inl hb,fun y c e=>(f2 b hb).2.2.2.2.1 y c (clS y c e),(f2 b hb).2.2.2.2.2⟩
 have I4:Inv (bU X N' scope cl s3.heap.objs.size s3 (upd H s.heap.objs.size (.lst [])) fp) pins (none::σ) (upd H s.heap.objs.size (.lst [])) { s3 with heap:=h₁,toks:=s3.toks+([]:List (Str×Value)).length }:=by
  refine⟨ok',rfl,I3.bare,Un.kept old,⟨_,hns₁,fun i y v e1 e2 vis=>?_⟩,fun y c e=>?_,?_,fun y c e=>I3.freeC y c (clS y c e),fun p hp=>?_,I3.hok.kept old,?_⟩
  ·cases i with
   | zero=>cases e2
   | succ i =>
    have e2':σ[i]?=some (some v):=by simpa using e2
    have hi:i<X.N.length:=by rw[<- I3.len];exact (ag.mp e2').1
    have vis':(relabel scope X.env).names.lookup y=some .local∨(relabel scope X.env).names.lookup y=some .cell∨(relabel scope X.env).names.lookup y=some .free:=vis;have e1':N'[i+1]?=some y:=e1;rcases S.sub i hi with q | q
    ·rw[e1'] at q
     have hy:X.N[i]?=some y:=q.symm;have hmem:y∈N'.tail:=by
      rw[ox];exact⟨i,by rw[ma];exact e1'⟩
     have hfr:scope.names.lookup y=some .free:=by
      rw[cL] at vis'
      cases q2:scope.names.lookup y with
      | none=>rw[q2] at vis';rcases vis' with z | z | z <;> cases z
      | some k =>
       cases k with
       | free=>rfl
       | cell=>exact absurd rfl (S.cell _ (eR q2))
       | «local» => exact absurd q2 (S.nol y hmem)
       | globalExplicit=>rw[q2] at vis';rcases vis' with z | z | z <;> simp at z
       | globalImplicit=>rw[q2] at vis';rcases vis' with z | z | z <;> simp at z
     have hok:=S.ok (y,.free) (eR hfr) rfl;obtain⟨m,hn,hl⟩:=I3.loc;have visX:Vis X.env.scope y:=by
      rcases hok with z | z
      ·exact .inr (.inl z)
      ·exact .inr (.inr z)
     obtain⟨u,r,l⟩:=hl i y v hy e2' visX;refine⟨u,r,.inr ⟨?_,?_⟩⟩
     ·show (relabel scope X.env).names.lookup y=some .cell∨(relabel scope X.env).names.lookup y=some .free
      rw[cL,hfr,lm];by_cases hcnd:(NameKind.free==NameKind.free&&X.env.scope.kind == .function&&X.env.kindOf y==some .cell)=true
      ·left
       rw[if_pos hcnd]
      ·right
       rw[if_neg hcnd]
     ·rcases l with ⟨k,_⟩ | ⟨k,c,e,z⟩
      ·have k':X.env.scope.names.lookup y=some .local:=k
       have hok':X.env.scope.names.lookup y=some .cell∨X.env.scope.names.lookup y=some .free:=hok;rw[k'] at hok';rcases hok' with z | z <;> cases z
      ·obtain⟨c',e'⟩:=clH y hfr
       have e3:=clS y c' e';rw[e] at e3;cases e3;obtain⟨o,ho,hd⟩:=z;exact⟨c,e',o,old c o ho,hd⟩
    ·rw[e1'] at q
     have q:scope.names.lookup y=none:=ba q;rw[cL,q] at vis';rcases vis' with z | z | z <;> cases z
  ·obtain⟨v,o,ho,hd⟩:=I3.cell y c (clS y c e)
   exact⟨v,o,old c o ho,hd⟩
  ·show upd H s.heap.objs.size (.lst []) s3.heap.objs.size=none
   exact I3.hok.fresh (af _)
  ·obtain⟨e,n,ne,nf,d⟩:=I3.pin p hp
   refine⟨old _ _ e,n,CneP p hp,fun z=>?_,d⟩;rcases aw.mp (I3.stkSub p.1 z) with q | q
   ·exact ne q
   ·exact nf q
  ·show (none::σ).length=N'.length
   rw[S.len,a9,I3.len]
 have st4:tn 0 h₁:=T.keep 0 s.heap h₁ st fun b _ o e=>old0 b o e
 have loop:∀ s₄:Shared,s₄ = { s3 with heap:=h₁,toks:=s3.toks+([]:List (Str×Value)).length } ->
   codeAny (model X.prog X.w) X.A (.compLoop (.ListComp elt [⟨.Name x px,iter,cds,0⟩] scope pos) 0 (.ref it) (.ref s.heap.objs.size) (compEnvC scope cl s3.heap.objs.size X.env)) (RR (.ref s.heap.objs.size) s3.heap.objs.size) s₄:=by
  rintro s₄ rfl;refine lN (fun n s'=>∃ i v0 ys H',Inv (bU X N' scope cl s3.heap.objs.size s3 (upd H s.heap.objs.size (.lst [])) fp) pins (v0::σ) H' s'∧tn i s'.heap∧(∀ b∈fp,H' b=none)∧W i n ys H') ?_ m0
   ⟨0,none,[],_,I4,st4,fun b hb=>by rw[aK (fpD b hb)];exact (f2 b hb).1,w0⟩
  rintro n s5 ⟨i,v0,ys,H5,I5,st5,fr5,w5⟩;rcases turn i n ys H5 w5 with ⟨stop,qn⟩ | ⟨go,hz,N,hN,Nn,hNn,step⟩
  ·refine thn (T.done (bU X N' scope cl s3.heap.objs.size s3 (upd H s.heap.objs.size (.lst [])) fp) rfl rfl rfl hc i pins s5 (v0::σ) H5 (fun _ _=>False) I5 (fpOk' fr5) st5 stop) fun r s6 ⟨hr,I6⟩=>?_
   subst hr;have hch:∀ b∈fp,(b∈X.ex∨X.s₀.heap.objs.size<=b)∧b≠X.env.locals∧(∀ x c,X.env.cells.lookup x=some c->c≠b)∧∀ p∈X.pn++pins,p.1≠b:=fun b hb =>
    ⟨(f2 b hb).2.2.2.1,(f2 b hb).2.1,(f2 b hb).2.2.2.2.1,(f2 b hb).2.2.2.2.2⟩
   have I7:Inv X pins σ H5 s6:=I3.call' (ch:=fp) I6.os I6.base I6.hok I6.bare hch;obtain⟨m,hm,_⟩:=I6.loc;exact hRR s.heap.objs.size s3.heap.objs.size s6 H5 I7 ⟨m,hm⟩ CneL CneC I6.free (a5 I3.sz (af _)) CneP qn
  ·refine thn (T.item (bU X N' scope cl s3.heap.objs.size s3 (upd H s.heap.objs.size (.lst [])) fp) rfl rfl rfl hc i pins s5 (v0::σ) H5 (fun _ _=>False) I5 (fpOk' fr5) st5 go) fun r s6 ⟨u,hr,h6⟩=>?_
   subst hr;refine thn h6 fun _ s7 ⟨y,H7,I7,r7,y7,st7,fr7⟩=>?_
   have I7':=I7.pinned (fpOk' fr7) (T.obj _ _ st7);refine wpAny_assign_Name (rP (i:=0) (v:=y) I7' S.nd S.hd (.inl (lookup_relabel_local S.var)) r7 (fun s8 I8=>?_) (.inr (lookup_relabel_local S.var)));have I8':Inv (bU X N' scope cl s3.heap.objs.size s3 (upd H s.heap.objs.size (.lst [])) fp) (pins++mI fp s7.heap) (some y::σ) H7 s8:=I8;refine thn (ht cl s3.heap.objs.size s3 (upd H s.heap.objs.size (.lst [])) fp _ s8 (some y::σ) H7 (fun b H''=>if b=true then te (some y::σ) H'' N else Nn H'') I8' (step y H7 y7)) fun okb s8 ⟨H8,I8,q8⟩=>?_
   cases okb with
   | false =>
    have q8':Nn H8:=by simpa using q8
    obtain⟨m',hm,w9⟩:=hNn H8 q8';refine⟨m',hm,i+1,some y,ys,_,I8.unpinned,T.keep _ _ _ st7 fun b hb o e=>(I8.pin (b,o) (bu _ (bu _ (eS hb e)))).1,fun b hb=>?_,w9⟩;obtain⟨o,e,d⟩:=T.obj _ _ st7 b hb;exact (I8.pin (b,o) (bu _ (bu _ (eS hb e)))).2.1
   | true =>
    refine thn (he cl s3.heap.objs.size s3 (upd H s.heap.objs.size (.lst [])) fp _ s8 (some y::σ) H8 N I8 (by simpa using q8)) fun w s9 ⟨v,H9,I9,r9,q9⟩=>?_
    obtain⟨hD9,m',hm,w9⟩:=hN v H9 q9;refine thn (jM _ s9 (some y::σ) H9 (.ref s.heap.objs.size) [v] (.ref s.heap.objs.size) [w] (fun z H10=>z = .non∧H10=upd H9 s.heap.objs.size (.lst (ys++[v]))) I9 rfl (.cons r9 .nil) ⟨s.heap.objs.size,ys,v,rfl,rfl,hD9,hz,rfl,rfl⟩) fun _ s10 ⟨z,H10,I10,_,ez,e10⟩=>?_
    subst e10;refine⟨m',hm,i+1,some y,ys++[v],_,I10.unpinned,T.keep _ _ _ st7 fun b hb o e=>(I10.pin (b,o) (bu _ (bu _ (eS hb e)))).1,fun b hb=>?_,w9⟩;obtain⟨o,e,d⟩:=T.obj _ _ st7 b hb;exact (I10.pin (b,o) (bu _ (bu _ (eS hb e)))).2.1
 exact codeAny_compStart_list (loop _ (by rw[<- hs3])) (T.self X.A 0 _ _ _ st4 (loop _ (by rw[<- hs3])))
theorem jC.toF {te:TE}{σ:St}{Q:VK}{J:It}{H:Hp}(hw:jC te σ Q J H):iA (fun _ H k=>k true H) te σ Q J H:=fun D hD=>by
 obtain⟨W,h0,hW⟩:=hw D hD;refine⟨W,h0,fun i m ys H2 hw2=>?_⟩;rcases hW i m ys H2 hw2 with g | ⟨g1,g2,N,g3,g4⟩
 ·exact .inl g
 ·exact .inr ⟨g1,g2,N,g3,fun _=>False,fun _ z=>z.elim,fun y H' hy=>rW (g4 y H' hy)⟩
theorem zV {at':St->VK->It->Hp->Prop}(S:bS X.N N' X.env.scope scope x)(hc:X.calm=true)(hi:PI X (.Name x px) iter wi)(ht:∀ cl C s H fp,PTL (bU X N' scope cl C s H fp) cds tc)(he:∀ cl C s H fp,PE (bU X N' scope cl C s H fp) elt te)(cv:∀ σ Q J H,at' σ Q J H->iA tc te σ Q J H)
  (hs:∀ x,foldedSetIterable iter X.env x=pure x:=by intro _;rfl):PE X (.ListComp elt [⟨.Name x px,iter,cds,0⟩] scope pos) (fun σ H Q=>wi σ H (at' σ Q)):=by
 intro pins s σ H Q I h;rw[eval_ListComp];have hfree:∀ z∈scope.names,z.2 = .free->∃ c,X.env.cells.lookup z.1=some c:=fun z hz hk=>by
  rcases S.ok z hz hk with q | q
  ·exact I.ok.has z.1 (.inl q)
  ·exact I.ok.has z.1 (.inr q)
 refine wpAny_comprehension_free (use:=none) rfl hs (jA hfree) S.kind S.names (thn (hi pins s σ H _ I h) fun xv s1 h1=>thn h1 fun itv s2 h2=>?_);obtain⟨it,fp,tn,J,H2,e,I2,T,st2,f2,hw⟩:=h2;subst e;obtain⟨cl,hcl,hrun⟩:=uM (tc:=tc) (cds:=cds) (elt:=elt) (iter:=iter) (pos:=pos) (px:=px) (E:=X.xe) (RR:=fun acc C=>compPost (model X.prog X.w) X.A X.xe none (EP X pins σ Q) acc C) S hc ht he I2 T st2 f2 (cv _ _ _ _ hw) (fun D C s' H' I' ⟨m,hm⟩ n1 n2 n3 n4 n5 q =>
  ⟨m,hm,fun h' hsb=>⟨.ref D,H',I'.turned (it:=C) (t':=s'.toks) (fun b o hb e=>(hsb.2 b hb).trans e) n3 n1 (.inr n4) n2 n5,rfl,q⟩⟩)
 have ecl:(pure (dL X.env.cells scope.names []):Sem (List (Str×Addr)))=pure cl:=(jA hfree).symm.trans hcl;have ecl':dL X.env.cells scope.names []=cl:=by
  injection ecl
 rw[ecl'];exact hrun
theorem qG {at':St->VK->It->Hp->Prop}{i:Nat}{y:Str}{py spos:Pos}(S:bS X.N N' X.env.scope scope x)(hc:X.calm=true)(hi:PI X (.Name x px) iter wi)(ht:∀ cl C s H fp,PTL (bU X N' scope cl C s H fp) cds tc)(he:∀ cl C s H fp,PE (bU X N' scope cl C s H fp) elt te)(cv:∀ σ Q J H,at' σ Q J H->iA tc te σ Q J H)
  (hN:X.N.Nodup) (hy:X.N[i]?=some y) (hyl:X.env.scope.names.lookup y=some .local)
  (hsw:swapsWith (.ListComp elt [⟨.Name x px,iter,cds,0⟩] scope pos) (some (.Name y py)) spos.line X.env=pure true:=by rfl)
  (hs:∀ x,foldedSetIterable iter X.env x=pure x:=by intro _;rfl):PS X (.Assign [.Name y py] (.ListComp elt [⟨.Name x px,iter,cds,0⟩] scope pos) spos) (Qb (fun σ H Q=>wi σ H (at' σ Q)) (vS i)):=by
 intro pins s σ H D0 I h;have hfree:∀ z∈scope.names,z.2 = .free->∃ c,X.env.cells.lookup z.1=some c:=fun z hz hk=>by
  rcases S.ok z hz hk with q | q
  ·exact I.ok.has z.1 (.inl q)
  ·exact I.ok.has z.1 (.inr q)
 rw[exec_Assign_Name_used _ _ _ _ hsw];refine wpAny_bind (wpAny_standAt (wpAny_bind ?_));show wpAny _ X.A (do let _ <- comprehension (.ListComp elt [⟨.Name x px,iter,cds,0⟩] scope pos) scope X.env _ (newList []) false (eval iter X.env) (some (assign (.Name y py) X.env))) _ _ s;refine wpAny_bind (wpAny_mono (wpAny_comprehension_free (use:=some (assign (.Name y py) X.env)) (Q:=fun _ s'=>SP X pins D0 .next s') rfl hs (jA hfree) S.kind S.names
  (thn (hi pins s σ H _ I h) fun xv s1 h1=>thn h1 fun itv s2 h2=>?_)) (fun _ s' hq=>wpAny_pure (wpAny_pure hq)) fun _ _ e=>e)
 obtain⟨it,fp,tn,J,H2,e,I2,T,st2,f2,hw⟩:=h2;subst e;obtain⟨cl,hcl,hrun⟩:=uM (tc:=tc) (cds:=cds) (elt:=elt) (iter:=iter) (pos:=pos) (px:=px) (E:=X.xe) (Q:=fun x H1=>vS i x σ H1 D0.nx) (RR:=fun acc C=>compPost (model X.prog X.w) X.A X.xe (some (assign (.Name y py) X.env)) (fun _ s'=>SP X pins D0 .next s') acc C) S hc ht he I2 T st2 f2 (cv _ _ _ _ hw) (fun D C s' H' I' ⟨m,hm⟩ n1 n2 n3 n4 n5 q=>by
  show wpAny _ X.A (assign (.Name y py) X.env (.ref D)) _ _ _;refine wpAny_assign_Name (wG (i:=i) (v:=.ref D) I' hN hy (.inl hyl) rfl (fun s'' I'' ⟨a,hsa,hwa⟩=>?_) (.inr hyl));have haC:C≠a:=by
   rcases hwa with z | z
   ·rw[z];exact n1
   ·intro z2
    exact n2 y a z z2.symm
  refine⟨m,hm.sameBut hsa haC,fun h' hsb=>?_⟩;exact⟨_,H',I''.turned (it:=C) (t':=s''.toks) (fun b o hb e=>(hsb.2 b hb).trans e) n3 n1 (.inr n4) n2 n5,q⟩)
 have ecl:(pure (dL X.env.cells scope.names []):Sem (List (Str×Addr)))=pure cl:=(jA hfree).symm.trans hcl;have ecl':dL X.env.cells scope.names []=cl:=by
  injection ecl
 rw[ecl'];exact hrun
theorem eI (S:bS X.N N' X.env.scope scope x)(hc:X.calm=true)(hi:PI X (.Name x px) iter wi)(he:∀ cl C s H fp,PE (bU X N' scope cl C s H fp) elt te)
  (hs:∀ x,foldedSetIterable iter X.env x=pure x:=by intro _;rfl):PE X (.ListComp elt [⟨.Name x px,iter,[],0⟩] scope pos) (Rr wi te) :=
 zV (at':=fun σ Q=>jC te σ Q) S hc hi (fun _ _ _ _ _=>Hi) he (fun _ _ _ _ h=>h.toF) hs
theorem Dl {i:Nat}{y:Str}{py spos:Pos}(S:bS X.N N' X.env.scope scope x)(hc:X.calm=true)(hi:PI X (.Name x px) iter wi)(he:∀ cl C s H fp,PE (bU X N' scope cl C s H fp) elt te)
  (hN:X.N.Nodup) (hy:X.N[i]?=some y) (hyl:X.env.scope.names.lookup y=some .local)
  (hsw:swapsWith (.ListComp elt [⟨.Name x px,iter,[],0⟩] scope pos) (some (.Name y py)) spos.line X.env=pure true:=by rfl)
  (hs:∀ x,foldedSetIterable iter X.env x=pure x:=by intro _;rfl):PS X (.Assign [.Name y py] (.ListComp elt [⟨.Name x px,iter,[],0⟩] scope pos) spos) (Qb (Rr wi te) (vS i)) :=
 qG (at':=fun σ Q=>jC te σ Q) S hc hi (fun _ _ _ _ _=>Hi) he (fun _ _ _ _ h=>h.toF) hN hy hyl hsw hs
end
theorem mQ {lo:Int}{n:Nat}{te:TE}{σ:St}{H:Hp}{Q:VK}(f:Nat->V)(hn:n<=sizeLine)
  (he:∀ i H',i<n->aJ H H'->∀ N:V->Hp->Prop,(∀ H'',aJ H' H''->N (f i) H'')->te (some (.int (lo+i))::σ) H' N)
  (hq:∀ D H',H D=none->aJ H H'->H' D=some (.lst ((cf n).map f))->Q (.ref D) H') :
  jC te σ Q (Itr lo n) H:=by
 intro D hD;refine⟨fun i m ys H2=>m=n-i∧i<=n∧ys=(cf i).map f∧aJ H H2∧H2 D=some (.lst ys),⟨n,rfl,b8 _,rfl,fun b o e=>?_,aE⟩,?_⟩
 ·rw[aK (aM e hD)]
  exact e
 ·rintro i m ys H2 ⟨rfl,hi,rfl,hs,hd⟩
  by_cases hlt:i<n
  ·refine .inr ⟨hlt,by rw[aR,dj];omega,fun v H'=>v=f i∧aJ H2 H',fun v H' ⟨ev,hs'⟩=>⟨hs' D _ hd,n-(i+1),by omega,rfl,hlt,?_,fun b o e=>?_,aE⟩,fun y H' hy=>?_⟩
   ·rw[ev,oh,bn]
    rfl
   ·rw[aK (aM e hD)]
    exact hs' b o (hs b o e)
   ·obtain⟨e1,e2⟩:=hy
    subst e1 e2;exact he i _ hlt hs _ fun H'' h''=>⟨rfl,h''⟩
  ·have e:i=n:=by omega
   subst e;exact .inl ⟨af _,hq D H2 hD hs hd⟩
structure Cal (P:Program)(w:World)(K:ae)(mg:Str->Option Value)(base:Heap)(CX:CXT)(x:Str)(k:Nat)(ps:List Str)(sp:Sp):Prop where
 ex:∃ (f:Addr) (fd:FuncData),bQ P w K mg base CX k f fd ps sp∧mg x=some (.ref f)∧av K (.ref f)=true∧nU K fd ps []
section
variable {X:Cx}
theorem aI {CX:CXT}{x:Str}{j k:Nat}{ps:List Str}{sp:Sp}{E:XK}{e:Expr}{es:List Expr}{t:TA}{p pos:Pos}(c:Cal X.prog X.w X.K X.mg X.base CX x j ps sp)(hr:gX k X.A)(hx:kX CX X E)(ha:PA X (e::es) t)
  (hjk:j<=k:=by decide) (hg:Gl X x:=by rfl) (hdb:(x==("__debug__" : Str))=false:=by decide) (he:starEach (e::es) X.env=(false,eval e X.env)::starEach es X.env:=by rfl) (hpl:(backTo pos (starEach es X.env)).any (·.1)=false:=by rfl) :
  PE X (.Call (.Name x p) (e::es) [] pos) (Rp sp [] E t):=by
 obtain⟨f,fd,F,hm,hk,hb⟩:=c.ex;exact Pg F (hr.mono hjk) hg hm hk hb .nil hx ha hdb he hpl
theorem bT (l:List Nat){x:Str}{j pos}(h:x=tx l):PE X (.Constant (.str x) j pos) (tC (T l)):=by
 subst h;exact Uc
theorem cV:eP X (.builtin "len") (fun xs H Q=>∃ (l:List Nat),xs=[T l]∧l.length<=sizeLine∧Q (.int (l.length:Nat)) H):=by
 intro pins s σ H xs us Q I r h;obtain⟨l,e,hz,q⟩:=h;exact zG pins s σ H xs us Q I r ⟨tx l,e,by rw[gA];exact hz,by rw[gA];exact q⟩
theorem Qd:IxR X (fun x y H Q=>∃ (l:List Nat),x=T l∧∃ (i:Int),y = .int i∧l.length<=sizeLine∧∃ c,atI l i=some c∧Q (T [c]) H):=by
 intro value slice pins s σ H x y v u Q I rx ry h hs;obtain⟨l,e1,i,e2,hz,c,hc,q⟩:=h;exact Tx value slice pins s σ H x y v u Q I rx ry ⟨tx l,i,c,e1,e2,by rw[gA];exact hz,by rw[dH];exact hc,q⟩ hs
theorem kL:eP X (.builtin "isinstance") (fun xs H Q=>∃ (x:V) (c:String) (t:Value) (b:Bool),xs=[x,.ty c]∧pJ X.K H x t∧je X.K t (.type c)=some b∧Q (.bl b) H):=by
 intro pins s σ H xs us Q I r h;obtain⟨x,c,t,b,rfl,ty,e,q⟩:=h;obtain⟨u,w',rfl,ru,rw'⟩:=Vm r;cases (show w'=Value.type c from rw');exact Ja I ru ty e fun tk=>⟨.bl b,H,I.tok tk,rfl,q⟩
theorem Al {K:ae}(T:String):je K (.type T) (.type T)=some true:=by
 unfold je;rw[if_pos (by simp)]
theorem zK {K:ae}:je K (.type "int") (.type "bool")=some false:=by
 unfold je;rw[if_neg (by decide)];rfl
theorem xI:OpR X (binaryOp .Add) (fun x y H Q=>∃ (l b:Addr) (xs zs:List V),x = .ref l∧y = .ref b∧SqL X.K H l xs∧SqL X.K H b zs∧xs.length+zs.length<=sizeLine∧∀ p,H p=none->Q (.ref p) (upd H p (.lst (xs++zs)))):=by
 intro pins s σ H x y v u Q I rx ry h;obtain⟨l,b,xs,zs,rfl,rfl,hH,hB,hz,q⟩:=h;cases rx;cases ry;obtain⟨its,r,⟨⟨cls,dd,data,sl⟩,n,ho,hc,hdd,hd⟩,_⟩:=I.list hH;obtain⟨its2,r2,⟨⟨cls2,dd2,data2,sl2⟩,n2,ho2,hc2,hdd2,hd2⟩,_⟩:=I.list hB;simp only at hc hd hc2 hd2;subst hc hd hc2 hd2;have e:its.toArray++its2.toArray=(its++its2).toArray:=by simp
 refine concat_meets ⟨_,ho,rfl⟩ ⟨_,ho2,rfl⟩ noFill_list_add seq_list_add PySem.F.slot_list_add PySem.F.entry_list_add (PySem.F.args_list_add_2 _ _) (list_addW l b its.toArray its2.toArray n n2 dd dd2 sl sl2 (by rw[a8,a8,<- r.length,<- r2.length];exact hz)) ⟨ho,ho2,?_⟩;rw[e];exact⟨.ref _,_,I.lnew (t':=s.toks) (r.append r2) (by rw[aq];exact hz),rfl,q _ I.fresh⟩
theorem jN (ls:List (List Nat)):(ls.map T).all iX=true:=by
 rw[List.all_map,fe];intro l _;rfl
theorem Td {ls ms:List (List Nat)}{us ws:List Value}(r:bR (ls.map T) us)(r':bR (ms.map T) ws){A:Around}{s:Shared}{j:Nat}{u w:Value}(hu:us[j]?=some u)(hw:ws[j]?=some w):SeqAt.EqAt A s u w (decide (ls[j]?=ms[j]?)):=by
 have h1:j<ls.length:=by have:=r.length;rw[aR] at this;rw[this];exact (ag.mp hu).1
 have h2:j<ms.length:=by have:=r'.length;rw[aR] at this;rw[this];exact (ag.mp hw).1
 obtain⟨u',e1,q1⟩:=r.get (i:=j) (x:=T ls[j]) (by rw[al,aa h1];rfl);obtain⟨w',e2,q2⟩:=r'.get (i:=j) (x:=T ms[j]) (by rw[al,aa h2];rfl);rw[hu] at e1;cases e1;rw[hw] at e2;cases e2;have e:=Kx (A:=A) (s:=s) q1 q2 rfl rfl;have ee:eqV (T ls[j]) (T ms[j])=decide (ls[j]?=ms[j]?):=by
  show (tx ls[j]==tx ms[j])=_;rw[c7,beq_iff_eq,decide_eq_true_iff,aa h1,aa h2];exact⟨fun h=>by rw[fZ h],fun h=>by rw[ba h]⟩
 rw[ee] at e;exact e
theorem yR {ls ms:List (List Nat)}(h:ls.length=ms.length):(cf ls.length).all (fun j=>decide (ls[j]?=ms[j]?))=decide (ls=ms):=by
 rw[c7,fe,decide_eq_true_iff];constructor
 ·intro g
  apply kg;intro i;by_cases hi:i<ls.length
  ·exact of_decide_eq_true (g i (cx.mpr hi))
  ·rw[cp (by omega),cp (by omega)]
 ·intro g j _
  rw[g];exact decide_eq_true rfl
theorem rN (hu:X.A.units<cLine):OpR X (compareOp .Eq) (fun x y H Q=>∃ (p b:Addr) (ls ms:List (List Nat)),x = .ref p∧y = .ref b∧SqL X.K H p (ls.map T)∧SqL X.K H b (ms.map T)∧Q (.bl (decide (ls=ms))) H):=by
 intro pins s σ H x y v u Q I rx ry h;obtain⟨p,b,ls,ms,rfl,rfl,h1,h2,q⟩:=h;cases rx;cases ry;obtain⟨its,r,pl,_⟩:=I.list h1;obtain⟨its2,r2,pl2,_⟩:=I.list h2;have l1:=r.length;have l2:=r2.length;rw[aR] at l1 l2;by_cases hl:ls.length=ms.length
 ·refine SeqAt.eq_listAt (e:=fun j=>decide (ls[j]?=ms[j]?)) pl.isList pl2.isList (by rw[a8,a8];omega) hu (fun j g1 g2=>Td r r2 (by simp) (by simp)) ?_
  rw[a8,<- l1,yR hl];exact⟨.bl _,H,I,rfl,q⟩
 ·refine SeqAt.eq_list_lengthsAt pl.isList pl2.isList (by rw[a8,a8,bne_iff_ne];omega) hu ?_
  have e:decide (ls=ms)=false:=decide_eq_false fun z=>hl (by rw[z])
  rw[e] at q;exact⟨.bl _,H,I,rfl,q⟩
end
structure Fly (P:Program)(w:World)(outer:List Env)(H:Hp)(s:Shared)(a:Addr)(cls:Value)(H':Hp)(s':Shared):Prop where
 os:s'.os=s.os
 bare:AllBare s'.gens
 ex:∃ (B:Heap) (t:Addr),Heap.FlyingW B outer a cls (.ref t) s'.heap∧HOk P w H' B∧(∀ b o,s.heap.get? b=some o->H b=none->b∉frs outer->B.get? b=some o) ∧
  ∀ b o,s.heap.get? b=some o->b∉frs outer->∃ o',B.get? b=some o'
 slot:∀ b o,s.heap.get? b=some o->H b=none->b∈frs outer->∃ sl,s'.heap.get? b=some { o with slots:=sl }
 free:∀ b o,s.heap.get? b=some o->H b=none->H' b=none
 tups:∀ b xs,H b=some (.tup xs)->H' b=some (.tup xs)
 frzs:∀ b o u,H b=some (.frz o u)->H' b=some (.frz o u)
 tbls:∀ b ps,H b=some (.tbl ps)->∃ more,H' b=some (.tbl (ps++more))
def CX1 (P:Program)(w:World):CXT:=fun outer H s E e s'=>∃ a cls H',e = .ref a∧Fly P w outer H s a cls H' s'∧E cls none H'
section
variable {X:Cx}{pins:List (Addr×Obj)}{σ:St}{H H':Hp}{s s':Shared}{a:Addr}{cls:Value}{E:Value->Shared->Prop}
structure Own (X:Cx):Prop where
 stk:X.stack=X.env::X.outer
 fr:X.env.frame=some X.env.locals
 ex:X.ex=[]
theorem Own.frs (O:Own X){b:Addr}:b∈frs X.stack↔b=X.env.locals∨b∈frs X.outer:=by
 unfold L2.frs;rw[O.stk,gk,O.fr];exact aw
theorem Inv.oldNe (I:Inv X pins σ H s){b:Addr}{o:Obj}(e:X.s₀.heap.get? b=some o):b≠X.env.locals:=a7 (bz (Heap.lt_size e) I.ok.above)
theorem Inv.hidHok (I:Inv X pins σ H s):HOk X.prog X.w H (rj s.heap (L2.frs X.stack)):=fun b u e =>
 (I.hok b u e).stay (fun c v hc q=>jo _ q fun hm=>by
  have n:=I.stkFree c hm;rcases hc with z | z
  ·rw[z,e] at n
   cases n
  ·rw[z] at n
   cases n) (fun _ q=>q) fun _ _ q=>q
theorem Fly.raised {args:List Value}{h:Heap}(I:Inv X pins σ H s)(O:Own X)(hx:Heap.MadeExcOf s.heap h a cls args) :
  wpAny (model X.prog X.w) X.A (leaving X.env (.ref a)) (fun _ s''=>Fly X.prog X.w X.outer X.H₀ X.s₀ a cls H s'') E { s with heap:=h }:=by
 have hst:=I.stack;have hin:∀ env∈X.stack,∀ b,env.frame=some b->b∈L2.frs X.stack:=fun env he b hb=>l5.mpr ⟨env,he,hb⟩
 have hl:=PySem.W.funFrames_hide hst hin;rw[O.stk] at hl;have hfr:=I.ok.frames;rw[O.stk] at hfr;have noEx:∀ b,b∉X.ex:=fun b z=>by
  rw[O.ex] at z;cases z
 refine wpAny_leaves_madeW (s:={ s with heap:=h }) hfr O.fr (fun b o q=>pq _ q) hl hx fun h' t x1 x2 x3 x4=>?_
 have notIn:∀ b o,X.s₀.heap.get? b=some o->b∉L2.frs X.outer->b∉L2.frs (X.env::X.outer):=fun b o e nb z=>by
  rw[<- O.stk] at z;rcases O.frs.mp z with q | q
  ·exact I.oldNe e q
  ·exact nb q
 have hokB:=I.hidHok;rw[O.stk] at hokB;refine⟨I.os,I.bare,⟨_,t,x1,hokB,fun b o e n nb=>?_,fun b o e nb=>?_⟩,fun b o e n hb=>?_,fun b o e n=>I.base.free b o e n (noEx b),I.base.tups,I.base.frzs,I.base.tbls⟩
 ·exact jo _ (I.base.keep b o e n nb (noEx b)) (notIn b o e nb)
 ·obtain⟨o',e'⟩:=I.base.there b o e (noEx b)
  exact⟨o',jo _ e' (notIn b o e nb)⟩
 ·obtain⟨sl,e1⟩:=I.base.slot b o e n hb (noEx b)
  obtain⟨_,o2,e2,hd⟩:=I.funs.mem hb;rw[e1] at e2;cases e2;obtain⟨sl2,e3⟩:=x4 b _ (hx.keeps b _ e1) hd;exact⟨sl2,e3⟩
theorem Fly.on (I:Inv X pins σ H s)(O:Own X)(Y:Fly X.prog X.w X.stack H s a cls H' s') :
  wpAny (model X.prog X.w) X.A (leaving X.env (.ref a)) (fun _ s''=>Fly X.prog X.w X.outer X.H₀ X.s₀ a cls H' s'') E s':=by
 obtain⟨B,t,hfl,hokB,kp,th⟩:=Y.ex;have hfr:=I.ok.frames;rw[O.stk] at hfr hfl;have noEx:∀ b,b∉X.ex:=fun b z=>by
  rw[O.ex] at z;cases z
 have notIn:∀ b o,X.s₀.heap.get? b=some o->b∉L2.frs X.outer->b∉L2.frs X.stack:=fun b o e nb z=>by
  rcases O.frs.mp z with q | q
  ·exact I.oldNe e q
  ·exact nb q
 refine wpAny_leaves_onW hfr O.fr hfl fun h' x1 x2=>?_
 refine⟨Y.os.trans I.os,Y.bare,⟨B,t,x1,hokB,fun b o e n nb=>kp b o (I.base.keep b o e n nb (noEx b)) (I.base.free b o e n (noEx b)) (notIn b o e nb),fun b o e nb=>?_⟩,fun b o e n hb=>?_,fun b o e n=>?_,
  fun b xs q=>Y.tups b xs (I.base.tups b xs q),fun b o u q=>Y.frzs b o u (I.base.frzs b o u q),fun b ps q=>?_⟩
 ·obtain⟨o',e'⟩:=I.base.there b o e (noEx b)
  exact th b o' e' (notIn b o e nb)
 ·obtain⟨sl,e1⟩:=I.base.slot b o e n hb (noEx b)
  obtain⟨_,o2,e2,hd⟩:=I.funs.mem hb;rw[e1] at e2;cases e2;obtain⟨sl2,e3⟩:=Y.slot b _ e1 (I.base.free b o e n (noEx b)) (O.frs.mpr (.inr hb));obtain⟨sl3,e4⟩:=x2 b _ e3 hd;exact⟨sl3,e4⟩
 ·obtain⟨o',e'⟩:=I.base.there b o e (noEx b)
  exact Y.free b o' e' (I.base.free b o e n (noEx b))
 ·obtain⟨m1,e1⟩:=I.base.tbls b ps q
  obtain⟨m2,e2⟩:=Y.tbls b _ e1;exact⟨m1++m2,by rw[e2,l0]⟩
end
abbrev Df:List Value:=[.type "ValueError",.type "Exception",.type "BaseException",.type "object"]
structure Exc (K:ae)(mg:Str->Option Value)(x:Str)(C:Addr):Prop where
 mg:mg x=some (.ref C)
 is:i6 K C Df "ValueError.__new__" = true
theorem Exc.own {K:ae}{mg:Str->Option Value}{x:Str}{C:Addr}{h:Heap}(c:Exc K mg x C)(X:K.In h):OwnCls x C Df "ValueError.__new__" mg h:=by
 refine⟨c.mg,?_⟩;have q:=c.is;unfold i6 at q;split at q
 ·rename_i dd cd sl ho
  split at q
  ·rename_i C' bm k0 k1 k2 k3 n k5 hm hs
   simp only [beq_iff_eq,qr,cr] at q;obtain⟨⟨⟨⟨⟨g1,g2⟩,g3⟩,g4⟩,g5⟩,g6⟩:=q;subst g1 g2;obtain⟨nm,bs,mro,ns,qn,hd,sn,sub,ab,col,del⟩:=cd;have hsl:sl = #[k0,k1,k2,k3,some (.builtin "ValueError.__new__"),k5]:=by
    cases sl with
    | mk l =>
     have hs':l=_:=hs;rw[hs']
   have hm':mro=_:=hm;have g3':del=false:=g3;subst hsl hm' g3';refine⟨bm,ns,nm,qn,bs,hd,sn,sub,ab,col,dd,k0,k1,k2,k3,k5,h.nsMap ns,X _ _ ho,?_,?_,?_⟩
   ·exact .of_isNs (PySem.W.isNs_of_in X g5)
   ·exact PySem.W.nsMap_none_of_in X g5 g6
   ·exact PySem.W.tail_of_in X g4
  ·cases q
 ·cases q
def Sl (E:Value->Hp->Prop)(C:Addr)(t:TA):TS:=fun _ σ H=>t σ H fun vs H1=>vs.length<=sizeLine∧E (.ref C) H1
theorem eM {x:Str}{C:Addr}{e₀:Expr}{rest:List Expr}{np cpos pos:Pos}{t:TA}{E:Value->Hp->Prop}(c:Exc X.K X.mg x C)(hc:X.calm=true)
  (hE:∀ (pins:List (Addr×Obj)) (σ:St) (H:Hp) (s:Shared) (h:Heap) (a:Addr) (args:List Value),Inv X pins σ H s->Heap.MadeExcOf s.heap h a (.ref C) args->E (.ref C) H->X.xe (.ref a) { s with heap:=h })
  (ha:PA X (e₀::rest) t) (hg:Gl X x:=by rfl) (hd:(x==("__debug__" : Str))=false:=by decide)
  (he:starEach (e₀::rest) X.env=(false,eval e₀ X.env)::starEach rest X.env:=by rfl) (hpl:(backTo cpos (starEach rest X.env)).any (·.1)=false:=by rfl) :
  PS X (.Raise (some (.Call (.Name x np) (e₀::rest) [] cpos)) none pos) (Sl E C t):=by
 intro pins s σ H D I h;have O:=c.own I.mod.kin;obtain⟨tl,N,nm,q,bs,hdct,sn,sub,ab,col,dd,k0,k1,k2,k3,k5,mN,hC,hN,hni,T⟩:=O.obj;refine wpAny_Raise_call_subT (C:=C) (nm:=nm) (q:=q) (N:=N) (bs:=bs) (bm:=tl) (hdct:=hdct) (sn:=sn) (sub:=sub) (ab:=ab) (col:=col) (dd:=dd) (k0:=k0) (k1:=k1) (k2:=k2) (k3:=k3) (k5:=k5) PySem.F.excBase_ValueError (mN:=mN)
  (T.hasType (by decide +kernel)) (I.ok.hd hc) (by rw[he];show (false||(backTo cpos (starEach rest X.env)).any (·.1))=false;rw[hpl];rfl) hni (rE I hg c.mg ⟨rfl,?_⟩ hd)
 have hA:=ha cpos pins s σ H _ I h;rw[he] at hA ⊢;refine Calls.evalArgs_plain (thn hA fun us s2 ⟨vs,H2,I2,r2,hz,q2⟩=>?_);exact⟨rfl,by rw[<- r2.length];exact hz,I2.bk _ _ hC,hN.keeps I2.bk,T.keeps I2.bk,fun h' e hx=>hE pins σ H2 s2 h' e us I2 hx q2⟩
section
variable {P:Program}{w:World}{K:ae}{mg:Str->Option Value}{base:Heap}{N:List Str}{qual:Str}{scope:Scope}{f:Addr}{cdv:Value}{A:Around}{outer:List Env}{s:Shared}{H:Hp}{E:XK}
theorem Wg {CX:CXT}:Own (qT CX P w K mg base N qual scope f cdv A outer s H E):=⟨rfl,rfl,rfl⟩
theorem wJ:kX (CX1 P w) (qT (CX1 P w) P w K mg base N qual scope f cdv A outer s H E) E:=fun pins σ H1 s1 e s' I h=>by
 obtain⟨a,cls,H',rfl,Y,q⟩:=h;exact thn (Fly.on I Wg Y) fun _ s'' Z=>⟨a,cls,H',rfl,Z,q⟩
theorem iJ {C:Addr}{pins:List (Addr×Obj)}{σ:St}{H1:Hp}{s1:Shared}{h:Heap}{a:Addr}{args:List Value}(I:Inv (qT (CX1 P w) P w K mg base N qual scope f cdv A outer s H E) pins σ H1 s1)(hx:Heap.MadeExcOf s1.heap h a (.ref C) args)(q:E (.ref C) none H1) :
 (qT (CX1 P w) P w K mg base N qual scope f cdv A outer s H E).xe (.ref a) { s1 with heap:=h }:=thn (Fly.raised I Wg hx) fun _ s'' Z=>⟨a,.ref C,H1,rfl,Z,q⟩
theorem aO {X:Cx}:kX (CX1 P w) X E0:=fun _ _ _ _ _ _ _ h=>by
 obtain⟨_,_,_,_,_,q⟩:=h;exact q.elim
theorem Fun.okX {x qual:Str}{st:Stmt}{f:Addr}{fd:FuncData}{N ps:List Str}{k:Nat}{sp:Sp}(F:Fun K x qual st f fd)(S:aS N ps (aD st))(len:∀ vs H Q E,sp vs H Q E->vs.length=ps.length)
  (hbody:∀ (cdv:Value) (A:Around) (outer:List Env) (s:Shared) (H:Hp) (vs:List V) (Q:VK) (E:XK),gX k (A.deeper (envOfC qual (aD st) s.heap.objs.size f cdv))->sp vs H Q E ->
   ∃ t,PSs (qT (CX1 P w) P w K mg base N qual (aD st) f cdv A outer s H E) (aP st) t∧t { nx:=fun _ H'=>Q .non H',rt:=Q } (nN N vs) H):bQ P w K mg base (CX1 P w) (k+1) f fd ps sp:=by
 obtain⟨oc,od,kV,doc,pm,an,cdv,ct,osl,rfl,lk,hcd⟩:=F.ex;exact Ru lk hcd S len fun A outer s H vs Q E hr hsp=>hbody cdv A outer s H vs Q E hr hsp
end
def XP (X:Cx)(pins:List (Addr×Obj))(R:St->Value->Hp->Prop)(e:Value)(s':Shared):Prop :=
 ∃ a cls σ' H s1 H',e = .ref a∧Inv X pins σ' H s1∧Fly X.prog X.w X.stack H s1 a cls H' s'∧R σ' cls H'
abbrev TTy:=kK->(St->Value->Hp->Prop)->St->Hp->Prop
def PTy (X:Cx)(st:List Stmt)(t:TTy):Prop :=
 ∀ (pins:List (Addr×Obj)) (s:Shared) (σ:St) (H:Hp) (D:kK) (R:St->Value->Hp->Prop),Inv X pins σ H s->t D R σ H->wpAny (model X.prog X.w) X.A (execs st X.env) (SP X pins D) (XP X pins R) s
section
variable {X:Cx}
abbrev TH:=kK->St->Value->Hp->Prop
def PH (X:Cx)(hs:List ExceptHandler)(t:TH):Prop :=
 ∀ (pins:List (Addr×Obj)) (σ:St) (H:Hp) (s:Shared) (a:Addr) (cls:Value) (H':Hp) (s':Shared) (D:kK),Inv X pins σ H s->Fly X.prog X.w X.stack H s a cls H' s'->t D σ cls H' ->
  wpAny (model X.prog X.w) X.A (handleBy (.ref a) X.env hs) (SP X pins D) X.xe s'
end
namespace RV
section
variable {prog:Program}{w:World}{A:Around}{E:Value->Shared->Prop}{s:Shared}
end
end RV
section
variable {X:Cx}
theorem vT:∀ (x:List Nat) (ls:List (List Nat)),risingS (tx x) (ls.map tx)=true->(∀ y∈ls,¬ y<x)∧ls.Pairwise (fun a b=>¬ b<a)
 | x,[],_=>⟨fun _ h=>(by cases h),.nil⟩
 | x,y::ls,h=>by
  have h':(!ltCps (tx y).cps.toList (tx x).cps.toList&&risingS (tx y) (ls.map tx))=true:=h;rw[cr,dH,dH,ltCps_eq] at h';obtain⟨a,b⟩:=vT y ls h'.2;have h1:¬ y<x:=by simpa using h'.1
  refine⟨fun z hz=>?_,j5.mpr ⟨a,b⟩⟩;rcases aw.mp hz with rfl | hz
  ·exact h1
  ·exact Wd.Ya h1 (a z hz)
theorem wC:∀ (ls:List (List Nat)),sortedS (ls.map tx)=true->ls.Pairwise (fun a b=>¬ b<a)
 | [],_=>.nil
 | x::ls,h=>j5.mpr (vT x ls h)
theorem oZ:∀ {us:List Value} {ss:List Str},StrsAre us ss->bR ((ss.map fun x=>x.cps.toList).map T) us
 | _,_,.nil=>.nil
 | _,_,.cons x t h=>.cons ⟨t,by show Value.str x t=Value.str (tx x.cps.toList) t;rw[kB]⟩ (oZ h)
theorem eX:eP X (.builtin "sorted") (fun xs H Q=>∃ (p:Addr) (ls:List (List Nat)),xs=[.ref p]∧SqL X.K H p (ls.map T)∧ls.length<64∧∀ (ms:List (List Nat)) (D:Addr),H D=none->ms.Perm ls->ms.Pairwise (fun a b=>¬ b<a)->Q (.ref D) (upd H D (.lst (ms.map T)))):=by
 intro pins s σ H xs us Q I r h;obtain⟨p,ls,rfl,hq,h64,q⟩:=h;obtain⟨u,rfl,ru⟩:=gD r;cases ru;obtain⟨its,rv,pl,hz⟩:=I.list hq;have hlen:=rv.length;rw[aR] at hlen;refine sorted_strs pl.isList (oY rv) (by omega) fun out ss' a1 a2 a3=>?_
 obtain⟨e,he⟩:=sortedAll_at s.heap its out;have em:(ss'.map fun x=>x.cps.toList).map tx=ss':=by
  rw[br]
  conv=>rhs;rw[<- j6 ss']
  exact bv fun x _=>kB x
 have hp:(ss'.map fun x=>x.cps.toList).Perm ls:=by
  have z:=a2.map fun x=>x.cps.toList
  have e2:(ls.map tx).map (fun x=>x.cps.toList)=ls:=by
   rw[br]
   conv=>rhs;rw[<- j6 ls]
   exact bv fun x _=>dH x
  rw[e2] at z;exact z
 have hpl:=hp.length_eq;refine⟨.ref _,_,I.laid (t':=s.toks) (fun _ _=>sortedAll_old) (fm _) (o:=.lst ((ss'.map fun x=>x.cps.toList).map T)) ⟨by rw[aR,hpl];rw[aR] at hz;exact hz,out.toList,e,oZ a1,by simpa using he⟩,rfl,q _ _ (I.hok.fresh (fm _)) hp (wC _ (by rw[em];exact a3))⟩
end
def nub:List (List Nat)->List (List Nat)->List (List Nat)
 | acc,[]=>acc
 | acc,l::ls=>if l∈acc then nub acc ls else nub (acc++[l]) ls
def fP (ls:List (List Nat)):Nat->List (List Nat)
 | 0=>[]
 | i+1=>if ls.getD i []∈fP ls i then fP ls i else fP ls i++[ls.getD i []]
theorem oB (ls:List (List Nat)):∀ i,(fP ls i).length<=i
 | 0=>af _
 | i+1=>by
  have h:=oB ls i;rw[fP];split
  ·omega
  ·rw[aq,b7]
   omega
theorem qF (ls:List (List Nat)):∀ i,(fP ls i).Nodup
 | 0=>gu
 | i+1=>by
  have h:=qF ls i;rw[fP];split
  ·exact h
  ·rename_i hn
   refine dw.mpr ⟨h,by simp,fun a ha b hb e=>?_⟩;have hb':b=ls.getD i []:=by simpa using hb
   rw[e,hb'] at ha;exact hn ha
theorem pD (ls:List (List Nat))(x:List Nat):∀ i,i<=ls.length->(x∈fP ls i↔x∈ls.take i)
 | 0,_=>by simp[fP]
 | i+1,hi=>by
  have h:=pD ls x i (by omega);have e:ls.take (i+1)=ls.take i++[ls.getD i []]:=by
   rw[cn,aj,aa (by omega)];rfl
  rw[e,bj,fP];split
  ·rename_i hm
   rw[h];constructor
   ·exact .inl
   ·rintro (q | q)
    ·exact q
    ·have q':x=ls.getD i []:=by simpa using q
     rw[q',<- pD ls _ i (by omega)];exact hm
  ·rw[bj,h]
def uniq (ls:List (List Nat)):List (List Nat):=fP ls ls.length
theorem tV (ls:List (List Nat)):(uniq ls).Nodup:=qF ls _
theorem iI (ls:List (List Nat))(x:List Nat):x∈uniq ls↔x∈ls:=by
 rw[uniq,pD ls x _ (af _),da]
namespace SE
section
variable {prog:Program}{w:World}{A:Around}{R:Result->Shared->Prop}{J:Addr}{fp wr:List Addr}{G:Array GenState->Array GenState->Prop}{n:Nat}{P:Nat->Value->Prop}{St:Nat->Shared->Prop}
abbrev Has (prog:Program)(w:World)(h:Heap)(D:Addr)(ms:List (List Nat)):Prop:=h.SetOf (e9 prog w) D (fun x=>decide (x.cps.toList∈ms)) ms.length
theorem Has.at {h h':Heap}{D:Addr}{ms:List (List Nat)}(x:Has prog w h D ms)(k:∀ o,h.get? D=some o->h'.get? D=some o):Has prog w h' D ms:=by
 obtain⟨o,es,ep,tb,ho,r⟩:=x;exact⟨o,es,ep,tb,k o ho,r⟩
theorem loop (W:WalksS prog w A.in1 J fp wr G n P St){D:Addr}(hD:D∉fp)(ls:List (List Nat))(hv:∀ i v,P i v->∃ t,v=Value.str (tx (ls.getD i [])) t)(hn:n+1<scanBound) :
  ∀ (k i:Nat) (s:Shared),n-i=k->i<=n->St i s->Has prog w s.heap D (fP ls i) ->
   (∀ s',Moved (D::wr) G s s'->Has prog w s'.heap D (fP ls n)->R (.ok (.ret .none)) s')->codeAny (model prog w) A (.builtin "set.update.loop" ⟨[.ref D,.ref J],[]⟩) R s:=by
 have hDw:D∉wr:=fun z=>hD (W.sub _ z)
 have up:∀ b∈wr,b∈D::wr:=fun b hb=>.tail _ hb
 intro k
 induction k with
 | zero =>
  intro i s hk hi st hs hR;obtain rfl:i=n:=by omega
  refine codeAny_builtin de ?_;rw[Around.under_plainId cc];refine wpAny_bind (m:=pyNext (.ref J)) (W.done s _ _ st fun s2 mv=>?_);exact (show wpAny _ A.in1 (ret Value.none) _ _ s2 from wpAny_pure (hR s2 (mv.mono up) (hs.at fun o e=>mv.heap D o hDw e)))
 | succ k ih =>
  intro i s hk hi st hs hR;have hlt:i<n:=by omega
  refine codeAny_builtin de ?_;rw[Around.under_plainId cc];refine wpAny_bind (m:=pyNext (.ref J)) (W.item i s _ _ hlt st fun v s2 pv st2 mv=>?_);obtain⟨t,rfl⟩:=hv i v pv;have hs2:=hs.at fun o e=>mv.heap D o hDw e
  refine wpAny_bind (m:=holding [Value.str (tx (ls.getD i [])) t] (setAdd D (.str (tx (ls.getD i [])) t))) (wpAny_holding ?_);unfold setAdd;refine wpAny_holding (wpAny_bind ((e9 prog w).pyHash (k:=tx (ls.getD i [])) (strKind_is _ _ _ _) ?_));have hl:=oB ls i;refine wpAny_setAddHashed_of (knd:=e9 prog w) (s:={ s2 with toks:=s2.toks+1 }) (strKind_is _ _ _ _) rfl hs2 (by omega) fun h3 sb x3=>?_
  have x4:Has prog w h3 D (fP ls (i+1)):=by
   refine mx x3 (fun y=>?_) ?_
   ·rw[fP]
    split
    ·rename_i hm
     rw[c7,iy,decide_eq_true_iff,decide_eq_true_iff];constructor
     ·rintro (q | q)
      ·exact q
      ·rw[q,dH]
       exact hm
     ·exact .inl
    ·rw[c7,iy,decide_eq_true_iff,decide_eq_true_iff,decide_eq_true_iff,bj,az]
     constructor
     ·rintro (q | q)
      ·exact .inl q
      ·right
       rw[q,dH]
     ·rintro (q | q)
      ·exact .inl q
      ·right
       rw[<- q,kB]
   ·rw[dH,fP]
    by_cases hm:ls.getD i []∈fP ls i
    ·rw[if_pos hm,if_pos (decide_eq_true hm)]
    ·rw[if_neg hm,if_neg (by rw[decide_eq_false hm];exact ak),aq]
     rfl
  refine wpAny_pure ⟨plainId_quiet cc _,ih (i+1) _ (by omega) hlt (W.frame _ s2 _ _ st2 (fm _) fun b hb o e=>(sb.2 b fun z=>hD (z▸hb)).trans e) x4 fun s5 m5 x5=>?_⟩;refine hR s5 (Moved.trans W.gtrans ((mv.mono up).then_heap (fm _) fun b o hb e=>(sb.2 b fun z=>hb (z▸.head _)).trans e) m5) x5
variable {E:Value->Shared->Prop}{s:Shared}
theorem Pm {l:Addr}{its:Array Value}{ls:List (List Nat)}{Q:Value->Shared->Prop}(hh:A.handled=none)(hl:s.heap.IsList l its)(hv:∀ i v,its[i]?=some v->∃ t,v=Value.str (tx (ls.getD i [])) t)(hn:its.size+1<scanBound)
  (h:∀ (h':Heap) (tk:Nat),Has prog w h' s.heap.objs.size (fP ls its.size)->(∀ b o,s.heap.get? b=some o->h'.get? b=some o)->Q (.ref s.heap.objs.size) { s with heap:=h',toks:=tk }) :
  wpAny (model prog w) A (call (.type "set") [.ref l]) Q E s:=by
 obtain⟨mc,mt,f0⟩:=F.called_set.mro;have f1:=F.called_set.made;have f2:=F.called_set.sub;have f3:=F.called_set.notType;have f4:=F.called_set.canCreate;have f5:=F.typeCall_set_1 (.ref l);refine wpAny_call (codeAny_of_tree (show wpAny _ _ (callAny (.type "set") _) _ _ _ from wpAny_pure ⟨Code.quiet_builtin _ (by decide +kernel),codeAny_builtin F.entry_type_call ?_⟩))
 rw[Around.under_plain (weight_type_call_type "set" [.ref l] []) rfl]
 repeat (any_goals (first | wp_step | assumption))
 refine codeAny_mono (code_set_new_1 (.ref l) (E:=E) (Q₁:=fun ob s1=>∃ b:Bool,ob = .ref s.heap.objs.size∧s1 = { s with heap:=s.heap.push { cls:=.type "set",dict:=none,data:=.set #[] 0 (.fresh 0 0 b) } }) fun b=>⟨b,rfl,rfl⟩) fun r s1 hr=>?_
 cases r with
 | error e=>exact hr
 | ok fl =>
  cases fl with
  | ret ob =>
   obtain⟨b,rfl,rfl⟩:=hr;generalize hob:({ cls:=.type "set",dict:=none,data:=.set #[] 0 (.fresh 0 0 b) }:Obj)=ob
   have hD:(s.heap.push ob).get? s.heap.objs.size=some ob:=Heap.get?_push_size _ (by rw[<- hob];rfl);have hT:Shared.TypeIs { s with heap:=s.heap.push ob } (.ref s.heap.objs.size) "set" := ⟨_,hD,by rw[<- hob]⟩
   have f6:=F.called_set.init.lookup;have f7:=F.called_set.init.bind (.ref s.heap.objs.size)
   repeat (any_goals (first | wp_step | assumption))
   refine codeAny_mono (codeAny_call_builtin (R:=wants (fun r s2=>r = .none∧∃ h' tk,s2 = { s with heap:=h',toks:=tk }∧Has prog w h' s.heap.objs.size (fP ls its.size)∧∀ b o,s.heap.get? b=some o->h'.get? b=some o) E)
    F.called_set.init.plain F.entry_set_init (check_set_init_1 hT ?_)) fun r2 s2 hr2=>?_
   ·obtain⟨⟨oc,od,odt,osl⟩,hol,hcl,nl,hdl⟩:=id hl
    simp only at hcl hdl;subst hcl hdl;have hol':(s.heap.push ob).get? l=some { cls:=.type "list",dict:=od,data:=.seq its nl,slots:=osl }:=Heap.get?_push_of_some _ hol
    have f8:=F.sub_list_set;have f9:=F.sub_list_frozenset;have f10:(Value.type "list" == Value.type "dict")=false:=by decide
    have hl1:(s.heap.push ob).IsList l its:=⟨_,hol',rfl,nl,rfl⟩;subst hob;unfold Builtin.«set.__init__» noKeywords Builtin.Frozenset.updateFrom;generalize hPI:pyIter=PI
    wp_walk
    subst hPI;refine wpAny_pyIter_list hl1 ?_;refine wpAny_bind (wpAny_runValue ?_);have hlt:l<s.heap.objs.size:=Heap.lt_size hol;have hh3:A.in1.in1.in1.handled=none:=by simp[hh]
    have hsz:(s.heap.push { cls:=.type "set",dict:=none,data:=.set #[] 0 (.fresh 0 0 b) }).objs.size=s.heap.objs.size+1:=Heap.size_push _ _
    have hne:l≠(s.heap.push { cls:=.type "set",dict:=none,data:=.set #[] 0 (.fresh 0 0 b) }).objs.size:=by rw[hsz];exact a7 (dg hlt)
    have hfp:s.heap.objs.size∉[(s.heap.push { cls:=.type "set",dict:=none,data:=.set #[] 0 (.fresh 0 0 b) }).objs.size,l]:=by
     rw[hsz];intro z;rcases aw.mp z with e | e
     ·exact a7 (fc _) e
     ·exact fh hlt (az.mp e)
    refine loop ((Walks.list hh3 _ l hne its).toS) (D:=s.heap.objs.size) hfp ls hv hn (its.size-0) 0 _ (by omega) (b8 _) ⟨⟨_,Heap.get?_push_size _ rfl,rfl,rfl⟩,hl1.push _⟩ ?_ fun s3 mv x3=>?_
    ·have hg:((s.heap.push { cls:=.type "set",dict:=none,data:=.set #[] 0 (.fresh 0 0 b) }).push { cls:=.type "list_iterator",data:=.fields #[.ref l,.int 0 0] }).get? s.heap.objs.size=some { cls:=.type "set",dict:=none,data:=.set #[] 0 (.fresh 0 0 b) }:=Heap.get?_push_of_some _ hD
     exact mx ((PyProof.Rows.setObjOf_fresh (knd:=e9 prog w) b).setOf hg (by unfold scanBound;omega)) (fun _=>rfl) rfl
    ·obtain⟨h3,g3,d3,tk3,os3⟩:=s3
     obtain rfl:g3=s.gens:=mv.gens;obtain rfl:d3=s.drawn:=mv.drawn;obtain rfl:os3=s.os:=mv.os;refine wpAny_pure (show wpAny _ _ (ret Value.none) _ _ _ from wpAny_pure ⟨rfl,h3,tk3,rfl,x3,fun c o e=>?_⟩);have hc:=Heap.lt_size e;exact mv.heap c o (show c∉[s.heap.objs.size,(s.heap.push { cls:=.type "set",dict:=none,data:=.set #[] 0 (.fresh 0 0 b) }).objs.size] by
      rw[hsz];intro z;rcases aw.mp z with e | e
      ·exact a7 hc e
      ·exact a7 (dg hc) (az.mp e)) (Heap.get?_push_of_some _ (Heap.get?_push_of_some _ e))
   ·cases r2 with
    | error e=>exact hr2
    | ok fl2 =>
     cases fl2 with
     | ret r =>
      obtain⟨rfl,h3,tk,rfl,x3,k3⟩:=hr2
      repeat (any_goals (first | wp_step | assumption))
      exact h _ _ x3 k3
     | _=>exact hr2.elim
  | _=>exact hr.elim
end
end SE
def Kv (P:Program)(w:World)(D:Addr)(ms:List (List Nat)):HO:=.ext fun h=>SE.Has P w h D ms
section
variable {X:Cx}
theorem Os {ls:List (List Nat)}{us:List Value}(r:bR (ls.map T) us){i:Nat}{v:Value}(h:us[i]?=some v):∃ t,v=Value.str (tx (ls.getD i [])) t:=by
 have hl:=r.length;rw[aR] at hl;have hi:i<ls.length:=by have:=(ag.mp h).1;omega
 obtain⟨u,h1,h2⟩:=r.get (i:=i) (x:=T ls[i]) (by rw[al,aa hi];rfl);rw[h] at h1;cases h1;rw[aj,aa hi];exact h2
theorem Iv (hc:X.calm=true):eP X (.type "set") (fun xs H Q=>∃ (p:Addr) (ls:List (List Nat)),xs=[.ref p]∧SqL X.K H p (ls.map T)∧ls.length+1<4096∧∀ D,H D=none->Q (.ref D) (upd H D (Kv X.prog X.w D (uniq ls)))):=by
 intro pins s σ H xs us Q I r h;obtain⟨p,ls,rfl,hq,hz,q⟩:=h;obtain⟨u,rfl,ru⟩:=gD r;cases ru;obtain⟨its,rv,pl,_⟩:=I.list hq;have hlen:=rv.length;rw[aR] at hlen;refine SE.Pm (I.ok.hd hc) pl.isList (ls:=ls) (fun i v e=>Os rv (by simpa using e)) (by rw[a8];unfold scanBound;omega) fun h' tk x k=>?_
 have e:fP ls its.toArray.size=uniq ls:=by rw[a8,<- hlen];rfl
 rw[e] at x;have hf:H s.heap.objs.size=none:=I.hok.fresh (af _);refine⟨.ref s.heap.objs.size,_,I.laid (t':=tk) k (af _) (o:=Kv X.prog X.w s.heap.objs.size (uniq ls)) ?_,rfl,q _ hf⟩;refine⟨x,?_,fun h1 h2 x1 kk=>x1.at kk⟩;obtain⟨o,_,_,_,ho,_⟩:=x;exact⟨o,ho⟩
theorem Jl:eP X (.builtin "len") (fun xs H Q=>∃ (D:Addr) (ms:List (List Nat)),xs=[.ref D]∧H D=some (Kv X.prog X.w D ms)∧Q (.int (ms.length:Nat)) H):=by
 intro pins s σ H xs us Q I r h;obtain⟨D,ms,rfl,hD,q⟩:=h;obtain⟨u,rfl,ru⟩:=gD r;cases ru;obtain⟨⟨o,es,ep,tb,ho,hex,hd,_,_,hb,hf,hn⟩,_⟩:=(show cH X.prog X.w H s.heap D (Kv X.prog X.w D ms) from I.hok D _ hD);have hb':es.size<4096:=hb;exact call_len_set ho hex hd hf (by omega) ⟨.int (ms.length:Nat),H,I.tok _,⟨s.toks+1,by rw[<- hn]⟩,q⟩
namespace LM
end LM
theorem Ct (K:ae)(hK:X.K=K):eP X (.builtin "len") (fun xs H Q=>∃ p ys,xs=[.ref p]∧(SqL K H p ys∨SqT K H p ys)∧Q (.int ys.length) H):=by
 subst hK;exact aX
theorem Jp (K:ae)(hK:X.K=K):IxR X (Uw K):=by
 subst hK;exact cK
end
def Itx (l:List Nat):It:=⟨fun i _=>i<l.length,fun i H x H'=>H'=H∧∃ c,l[i]?=some c∧x=T [c],fun i _=>l.length<=i⟩
theorem Ib {P:Program}{w:World}{K:ae}{tg:Expr}{it:Addr}{ty:String}{l:List Nat}{t:Tok}(hty:ty = "str_ascii_iterator" ∨ ty = "str_iterator")
  (W:∀ A:Around,A.handled=none->Walks P w A it [it] [it] (tx l).cps.size (SignAt (tx l)) (fun i h=>h.IsStrIter it ty (tx l) t i)):vE P w K tg (Itx l) [it] it (fun i h=>h.IsStrIter it ty (tx l) t i) where
 mem:=by simp
 obj:=fun i h st b hb=>by
  have e:b=it:=by simpa using hb
  subst e;obtain⟨o,e,c,d⟩:=st;exact⟨o,e,fun v z=>by rw[d] at z;cases z⟩
 keep:=fun i h h' st k=>by
  obtain⟨o,e,r⟩:=st;exact⟨o,k it (by simp) o e,r⟩
 item:=by
  intro X hP hw hK hc i pins s σ H E I hf st hg;subst hP hw hK;obtain⟨f0,f1,f2,f3,f4,f5⟩:=hf it (by simp);refine (W X.A (I.ok.hd hc)).item i s _ _ (by have:i<l.length:=hg;simpa [tx] using this) st fun v h' tk hv st' kk=>?_
  obtain⟨c,u,hcu,rfl⟩:=hv;have I1:Inv X pins σ H { s with heap:=h',toks:=tk }:=I.turned (fun b o hb e=>kk b o (by simpa using hb) e) f0 f1 f3 f4 f5;obtain⟨o,e,cl,d⟩:=id st';refine⟨_,rfl,Hh (s:={ s with heap:=h',toks:=tk }) (n:=ty) e cl d (by rcases hty with rfl | rfl <;> decide) ⟨T [c],H,I1,⟨u,rfl⟩,⟨rfl,c,?_,rfl⟩,st',fun b hb=>(hf b hb).1⟩⟩
  simpa [tx] using hcu
 done:=by
  intro X hP hw hK hc i pins s σ H E I hf st hg;subst hP hw hK;obtain⟨f0,f1,f2,f3,f4,f5⟩:=hf it (by simp);have hn:l.length<=i:=hg;obtain⟨o,e,cl,d⟩:=id st;rcases hty with rfl | rfl
  ·exact wpAny_pyNext_ascii_end (I.ok.hd hc) st (by simpa [tx] using hn) fun h' eb=>⟨rfl,I.turned (t':=s.toks) (fun b o hb e=>eb b o hb e) f0 f1 f3 f4 f5⟩
  ·exact wpAny_pyNext_wide_end (I.ok.hd hc) st (by simpa [tx] using hn) fun h' eb=>⟨rfl,I.turned (t':=s.toks) (fun b o hb e=>eb b o hb e) f0 f1 f3 f4 f5⟩
 self:=fun A i s Q E st h=>by
  rcases hty with rfl | rfl
  ·exact wpAny_pyIter_striter_ascii st h
  ·exact wpAny_pyIter_striter_wide st h
def Xi (tl:TE):TI:=fun σ H R=>tl σ H fun x H1=>∃ l,x=T l∧R (Itx l) H1
section
variable {X:Cx}{tg:Expr}
theorem Km {e:Expr}{tl:TE}(hl:PE X e tl):PI X tg e (Xi tl):=by
 intro pins s σ H R I h;refine thn (hl pins s σ H _ I h) fun v s1 ⟨x,H1,I1,r1,q1⟩=>?_
 obtain⟨l,rfl,q⟩:=q1;obtain⟨t,rfl⟩:=r1;have fin:∀ (ty:String) (o:Obj),(ty = "str_ascii_iterator" ∨ ty = "str_iterator")->(∀ A:Around,A.handled=none->Walks X.prog X.w A s1.heap.objs.size [s1.heap.objs.size] [s1.heap.objs.size] (tx l).cps.size (SignAt (tx l)) (fun i h=>h.IsStrIter s1.heap.objs.size ty (tx l) t i)) ->
   (s1.heap.push o).IsStrIter s1.heap.objs.size ty (tx l) t 0->PIE X pins σ tg R (.ref s1.heap.objs.size) { s1 with heap:=s1.heap.push o }:=fun ty o hty W st=>by
  refine⟨s1.heap.objs.size,[s1.heap.objs.size],_,_,H1,rfl,I1.kept (t':=s1.toks) fun b o e=>Heap.get?_push_of_some _ e,Ib hty W,st,fun b hb=>?_,q⟩;have e:b=s1.heap.objs.size:=by simpa using hb
  subst e;exact I1.fpOk (af _) (I1.hok.fresh (af _))
 cases ha:(tx l).cps.all (· < 128)
 ·exact wpAny_pyIter_wide ha (fin "str_iterator" _ (.inr rfl) (fun A hA=>Walks.strWide hA _ (tx l) t) ⟨_,Heap.get?_push_size _ rfl,rfl,rfl⟩)
 ·exact wpAny_pyIter_ascii ha (fin "str_ascii_iterator" _ (.inl rfl) (fun A hA=>Walks.strAscii hA _ (tx l) t) ⟨_,Heap.get?_push_size _ rfl,rfl,rfl⟩)
end
theorem Mp {l:List Nat}{g:TG}{tb:TS}{D:kK}{σ:St}{H:Hp}(Pv:Nat->St->Hp->Prop)(h0:Pv 0 σ H)
  (hs:∀ i c σ H,l[i]?=some c->Pv i σ H->g (T [c]) σ H fun σ2 H2=>tb { D with nx:=Pv (i+1),ct:=Pv (i+1),bk:=D.nx } σ2 H2) (hd:∀ σ H,Pv l.length σ H->D.nx σ H) :
  ∃ W:Nat->Nat->St->Hp->Prop,(∃ m,W 0 m σ H)∧∀ i m σ H,W i m σ H ->
   ((Itx l).stop i H∧D.nx σ H)∨((Itx l).go i H∧∃ N:St->Hp->Prop,(∀ σ' H',N σ' H'->∃ m',m'<m∧W (i+1) m' σ' H')∧∀ x H',(Itx l).yld i H x H'->g x σ H' fun σ2 H2=>tb { D with nx:=N,ct:=N,bk:=D.nx } σ2 H2):=by
 refine⟨fun i m σ H=>m=l.length-i∧i<=l.length∧Pv i σ H,⟨l.length,by simp,b8 _,h0⟩,?_⟩;rintro i m σ H ⟨rfl,hi,p⟩;by_cases hlt:i<l.length
 ·refine .inr ⟨hlt,Pv (i+1),fun σ' H' p'=>⟨l.length-(i+1),by omega,rfl,hlt,p'⟩,fun x H' y=>?_⟩
  obtain⟨rfl,c,hc,rfl⟩:=y;exact hs i c σ _ hc p
 ·obtain rfl:i=l.length:=by omega
  exact .inl ⟨af _,hd σ H p⟩
section
variable {X:Cx}
theorem Ca:OpR X (compareOp .NotIn) (fun x y H Q=>∃ c,x=T [c]∧∃ l,y=T l∧Q (.bl (!decide (c∈l))) H):=by
 intro pins s σ H x y v u Q I rx ry h;obtain⟨c,e1,l,e2,q⟩:=h;exact xA pins s σ H x y v u Q I rx ry ⟨tx [c],tx l,e1,e2,by rw[show tx [c]=⟨#[c]⟩ from rfl,StrLaws.found_one,dH];exact q⟩
namespace RV
variable {prog:Program}{w:World}{A:Around}{E:Value->Shared->Prop}{s:Shared}
end RV
end
section
variable {P:Program}{w:World}{K:ae}{mg:Str->Option Value}{base:Heap}
theorem Fun.okN {x qual:Str}{st:Stmt}{f:Addr}{fd:FuncData}{N ps:List Str}{k:Nat}{sp:Sp}(F:Fun K x qual st f fd)(S:aS N ps (aD st))(len:∀ vs H Q E,sp vs H Q E->vs.length=ps.length)
  (hbody:∀ (cdv:Value) (A:Around) (outer:List Env) (s:Shared) (H:Hp) (vs:List V) (Q:VK) (E:XK),gX k (A.deeper (envOfC qual (aD st) s.heap.objs.size f cdv))->sp vs H Q E ->
   ∃ t,PSs (qT (CX1 P w) P w K mg base N qual (aD st) f cdv A outer s H E).nox (aP st) t∧t { nx:=fun _ H'=>Q .non H',rt:=Q } (nN N vs) H):bQ P w K mg base (CX1 P w) (k+1) f fd ps sp:=by
 obtain⟨oc,od,kV,doc,pm,an,cdv,ct,osl,rfl,lk,hcd⟩:=F.ex;refine Ru lk hcd S len fun A outer s H vs Q E hr hsp=>?_
 obtain⟨t,h,q⟩:=hbody cdv A outer s H vs Q E hr hsp;exact⟨t,h.nox,q⟩
end
namespace EX
open PySem.W PySem.Calls PySem.Builtin PySem.Builtin.ObjectAttr PySem.Builtin.Getset_descriptor
variable {prog:Program}{w:World}{A:Around}{E:Value->Shared->Prop}{s:Shared}{K:ae}{a C:Addr}
end EX
section
variable {X:Cx}
end
section
variable {X:Cx}{es:List Expr}{te:TE}{t:TA}
end
section
variable {X:Cx}{tg:Expr}
end
end L2
namespace L2
open PySem
section
variable {X:Cx}{N':List Str}{scope:Scope}{x:Str}{px:Pos}{elt iter cd:Expr}{pos:Pos}{te:TE}{tc:TT}{wi:TI}
theorem tQ (S:bS X.N N' X.env.scope scope x)(hc:X.calm=true)(hi:PI X (.Name x px) iter wi)(ht:∀ cl C s H fp,PT (bU X N' scope cl C s H fp) cd tc)(he:∀ cl C s H fp,PE (bU X N' scope cl C s H fp) elt te)
  (hs:∀ x,foldedSetIterable iter X.env x=pure x:=by intro _;rfl):PE X (.ListComp elt [⟨.Name x px,iter,[cd],0⟩] scope pos) (Mo wi tc te) :=
 zV (at':=fun σ Q=>iA tc te σ Q) S hc hi (fun cl C s H fp=>Gc (ht cl C s H fp)) he (fun _ _ _ _ h=>h) hs
theorem fN {i:Nat}{y:Str}{py spos:Pos}(S:bS X.N N' X.env.scope scope x)(hc:X.calm=true)(hi:PI X (.Name x px) iter wi)(ht:∀ cl C s H fp,PT (bU X N' scope cl C s H fp) cd tc)(he:∀ cl C s H fp,PE (bU X N' scope cl C s H fp) elt te)
  (hN:X.N.Nodup) (hy:X.N[i]?=some y) (hyl:X.env.scope.names.lookup y=some .local)
  (hsw:swapsWith (.ListComp elt [⟨.Name x px,iter,[cd],0⟩] scope pos) (some (.Name y py)) spos.line X.env=pure true:=by rfl)
  (hs:∀ x,foldedSetIterable iter X.env x=pure x:=by intro _;rfl):PS X (.Assign [.Name y py] (.ListComp elt [⟨.Name x px,iter,[cd],0⟩] scope pos) spos) (Qb (Mo wi tc te) (vS i)) :=
 qG (at':=fun σ Q=>iA tc te σ Q) S hc hi (fun cl C s H fp=>Gc (ht cl C s H fp)) he (fun _ _ _ _ h=>h) hN hy hyl hsw hs
end
section
variable {X:Cx}
end
theorem pS {α:Type}(p:α->Bool)(l:List α)(i:Nat)(v:α)(h:l[i]?=some v):(l.take (i+1)).filter p=(l.take i).filter p++(if p v then [v] else []):=by
 rw[cn,h,fu];cases hp:p v <;> simp[hp]
theorem qN {α:Type}(p:α->Bool)(l:List α)(i:Nat):((l.take i).filter p).length<=i:=by
 have h1:=db p (l.take i);rw[cb] at h1;omega
theorem Iy (w:List Nat)(k:Nat):gC w none (some (k:Int))=w.take k:=by
 unfold gC;rw[HT.eG,HT.fX,fk,ly];by_cases h:k<=w.length
 ·rw[eh h]
 ·rw[Nat.min_eq_right (by omega),da,cq (by omega)]
end L2
set_option autoImplicit false
namespace SR
open PySem PyProof.Rows
structure SB (kd:SortKind)(z:Array Keyed)(st:SortSt):Prop where
 prm:(arrOf st).Perm z
 knd:kindOf st=kd
 ffl:failedOf st=none
section
variable {prog:Program}{w:World}{A:Around}{E:Value->Shared->Prop}{s:Shared}{z:Array Keyed}{κ:KeyKind}{kd:SortKind}
end
end SR
set_option autoImplicit false
namespace SR
open PySem PyProof.Rows
def Xe:Bool->Keyed->Array Keyed->Nat->Nat->Nat->StateT SortSt Sem (Option Nat):=sortPriv% PySem.Builtin.gallop
def bq (left:Bool)(key:Keyed)(arr:Array Keyed)(base:Nat)(i:Nat):StateT SortSt Sem (Option Bool):=do
 let x <- elem' arr (base+i)
 if left then lt' x key else return (<- lt' key x).map (!·)
section
variable {prog:Program}{w:World}{A:Around}{E:Value->Shared->Prop}{s:Shared}{z:Array Keyed}{κ:KeyKind}{kd:SortKind}
end
end SR
set_option autoImplicit false
namespace SR
open PySem PyProof.Rows
section
variable {prog:Program}{w:World}{A:Around}{E:Value->Shared->Prop}{s:Shared}{z:Array Keyed}{κ:KeyKind}{kd:SortKind}
end
end SR
set_option autoImplicit false
namespace SR
open PySem PyProof.Rows
section
variable {prog:Program}{w:World}{A:Around}{E:Value->Shared->Prop}{s:Shared}{κ:KeyKind}{kd:SortKind}
end
end SR
set_option autoImplicit false
namespace SR
open PySem PyProof.Rows
def rt (a:Array Keyed)(n:Nat):List Keyed:=(a.toList.take n).reverse
section
variable {prog:Program}{w:World}{A:Around}{E:Value->Shared->Prop}{s:Shared}{κ:KeyKind}{kd:SortKind}
abbrev Up:=Option (Array Keyed)×Nat×Nat×Array Keyed×Nat×Nat×Nat
def hi3 (a b o:Array Keyed)(i j g p q:Nat):StateT SortSt Sem (ForInStep Up):=do
 let x <- elem' a (i-1)
 if (i-1==0)=true then pure (ForInStep.done (some (a.extract 0 (i-1)++b.extract 0 j++(o.push x).reverse),i-1,j,o.push x,g,p,q))
 else if (decide (p<7)&&decide (q<7))=true then pure (ForInStep.done (none,i-1,j,o.push x,g,p,q)) else pure (ForInStep.yield (none,i-1,j,o.push x,g,p,q))
def hi2 (a b o:Array Keyed)(i j g p q:Nat):StateT SortSt Sem (ForInStep Up):=do
 let x <- elem' b j
 if (j==1)=true then pure (ForInStep.done (some (b.extract 0 j++a.extract 0 i++(o.push x).reverse),i,j,o.push x,g,p,q))
 else do
  let u <- elem' a (i-1)
  let z <- Xe true u b 0 j (j-1)
  match z with
  | some y =>
   if j-y>0 then
    if (y==1)=true then pure (ForInStep.done (some (b.extract 0 y++a.extract 0 i++(o.push x++(b.extract y j).reverse).reverse),i,y,o.push x++(b.extract y j).reverse,g,p,j-y))
    else if (y==0)=true then pure (ForInStep.done (some (a.extract 0 i++b.extract 0 y++(o.push x++(b.extract y j).reverse).reverse),i,y,o.push x++(b.extract y j).reverse,g,p,j-y))
    else hi3 a b (o.push x++(b.extract y j).reverse) i y g p (j-y)
   else hi3 a b (o.push x) i j g p (j-y)
  | _=>pure (ForInStep.done (some (a.extract 0 i++b.extract 0 j++(o.push x).reverse),i,j,o.push x,g,p,q))
end
end SR
set_option autoImplicit false
namespace SR
open PySem PyProof.Rows
def sg (xs:Array Keyed)(l n:Nat):List Keyed:=(xs.toList.drop l).take n
section
variable {κ:KeyKind}{kd:SortKind}
end
end SR
set_option autoImplicit false
namespace SR
open PySem PyProof.Rows
section
variable {prog:Program}{w:World}{A:Around}{E:Value->Shared->Prop}{s:Shared}{z:Array Keyed}{κ:KeyKind}{kd:SortKind}
end
end SR
set_option autoImplicit false
namespace SR
open PySem PyProof.Rows
section
variable {κ:KeyKind}{kd:SortKind}
end
section
variable {prog:Program}{w:World}{A:Around}{E:Value->Shared->Prop}{s:Shared}{z:Array Keyed}{κ:KeyKind}{kd:SortKind}
end
end SR
set_option autoImplicit false
namespace SR
open PySem PyProof.Rows PySem.Spec
section
variable {prog:Program}{w:World}{A:Around}{E:Value->Shared->Prop}{s:Shared}
end
end SR
namespace L2
open PySem PyProof.Rows PySem.Spec
section
variable {X:Cx}
theorem qE {x:V}:∀ {xs:List V} {us:List Value},bR xs us->xs.all iX=true->us.countP (eqU x)=xs.countP (fun y=>eqV y x)
 | _,_,.nil,_=>rfl
 | y::xs,u::us,.cons r t,f=>by
  rw[pj,cr] at f;rw[m6,m6,qE t f.2,Ee r f.1]
theorem Js:MtR X "list.count" (fun x xs H Q=>∃ (p:Addr) (ys:List V) (a:V),x = .ref p∧xs=[a]∧SqL X.K H p ys∧ys.all iX=true∧iX a=true∧Q (.int ((ys.countP (fun y=>eqV y a):Nat):Int)) H):=by
 intro pins s σ H x xs v us Q I rx rs h;obtain⟨p,ys,a,rfl,rfl,hq,hf,ha,q⟩:=h;cases rx;obtain⟨u,rfl,ru⟩:=gD rs;obtain⟨its,r,⟨⟨cls,dd,data,sl⟩,n,ho,hc,hdd,hd⟩,hz⟩:=I.list hq;simp only at hc hd;subst hc hd;refine call_meets j7 ⟨_,ho,rfl⟩ PySem.F.entry_list_count (PySem.F.args_list_count_2 _ _) (SeqAt.list_countAt p its.toArray n dd sl u (eqU a))
  ⟨ho,fun y hy=>jG ru ha r hf y (by simpa using hy),⟨.int ((ys.countP (fun y=>eqV y a):Nat):Int),H,I.tok _,⟨s.toks,by rw[<- qE r hf]⟩,q⟩⟩
theorem wK (hc:X.calm=true):eP X (.builtin "sum") (fun xs H Q=>∃ (p:Addr) (ns:List Int),xs=[.ref p]∧SqL X.K H p (ns.map V.int)∧Q (.int ns.sum) H):=by
 intro pins s σ H xs us Q I r h;obtain⟨p,ns,rfl,hq,q⟩:=h;obtain⟨u,rfl,ru⟩:=gD r;cases ru;obtain⟨its,rv,pl,_⟩:=I.list hq;have hia:=Ey rv;have hnum:=hia.numsOf;obtain⟨ys,hx⟩:=hia.allInts.items;have hl:=pl.isList;rw[hx] at hl;have e:preSum (numAt ys) ys.size=ns.sum:=by
  rw[preSum_eq,cq (by simp)];rw[<- hnum,show its=its.toArray.toList from by simp,hx,nums_intItems]
 exact sum_intListG (I.ok.hd hc) hl fun h' tk t' hk=>⟨.int ns.sum,H,I.kept hk,⟨t',by rw[e]⟩,q⟩
theorem vU (K:ae)(hK:X.K=K):MtR X "list.count" (fun x xs H Q=>∃ (p:Addr) (ys:List V) (a:V),x = .ref p∧xs=[a]∧SqL K H p ys∧ys.all iX=true∧iX a=true∧Q (.int ((ys.countP (fun y=>eqV y a):Nat):Int)) H):=by
 subst hK;exact Js
theorem Mu (K:ae)(hK:X.K=K){o e:Expr}{es:List Expr}{to:TE}{t:TA}{name:Str}{apos cpos:Pos}{T id:String}{r:V->List V->Hp->VK->Prop}
  (pa:PlainAttrs T) (slot:Slot T name id) (hty:typeOf (.builtin id)=pure (.type "method_descriptor")) (hm:MtR X id r) (ho:PE X o to) (ha:PA X (e::es) t)
  (b1:attributeBase o name X.env (eval o X.env)=eval o X.env:=by rfl)
  (b2:((backTo cpos (starEach (e::es) X.env)).all (fun x=>!x.1)&&(backToKw cpos (keywordEach [] X.env)).all (fun x=>x.1.isSome)&&decide ((e::es).length+([]:List Keyword).length+(if ([]:List Keyword).isEmpty then 0 else 1)<30))=true:=by rfl)
  (b3:(apos.endLine==cpos.line)=true:=by rfl) (b4:starEach (e::es) X.env=(false,eval e X.env)::starEach es X.env:=by rfl) (b5:(backTo cpos (starEach es X.env)).any (·.1)=false:=by rfl) :
  PE X (.Call (.Attribute o name apos) (e::es) [] cpos) (tBM K T r to t):=by
 subst hK;exact Az pa slot hty hm ho ha b1 b2 b3 b4 b5
end
section
variable (P:Program)(w:World)
end
section
variable {P:Program}{w:World}{H H':Hp}{h h':Heap}{a:Addr}{o:HO}
end
section
variable {P:Program}{w:World}{H:Hp}{h h':Heap}{x e:Addr}{o':HO}
end
section
variable {fs fs' ex ex':List Addr}{H H1 H2:Hp}{h h1 h2 h':Heap}{a x e:Addr}{o:HO}
end
section
variable {X:Cx}{pins:List (Addr×Obj)}{σ:List (Option V)}{H H':Hp}{s:Shared}{h':Heap}
end
section
variable {X:Cx}
variable {a b:Expr}{ta tb:TE}{pos:Pos}
variable {tA tB':TT}{rest:List Expr}
end
section
variable {X:Cx}{pins:List (Addr×Obj)}{σ:St}{H:Hp}{s:Shared}{a:Addr}{xs ys:List V}
end
section
variable {X:Cx}{pins:List (Addr×Obj)}{σ:St}{H:Hp}{s:Shared}{E:Value->Shared->Prop}
end
section
variable {X:Cx}{st:Stmt}{rest:List Stmt}{t u:TS}{e:Expr}{te:TE}{pos:Pos}
end
section
variable {X:Cx}{pos:Pos}
end
section
variable {X:Cx}{tg:Expr}
end
section
variable {X:Cx}{a b c:Expr}{ta tb tc:TE}{pos:Pos}
end
section
variable {prog:Program}{w:World}{A:Around}{E:Value->Shared->Prop}{s:Shared}{K:ae}{x dx C f:Addr}{mA:Str->Option Value}{name:Str}{v:Value}
end
section
variable {P:Program}{w:World}{H H':Hp}{h h':Heap}{a C dx:Addr}{fs fs':List (Str×V)}
end
section
variable {X:Cx}{pins:List (Addr×Obj)}{σ:St}{H:Hp}{s:Shared}{a C dx:Addr}{fs:List (Str×V)}{f:Str}{v:V}{A:Around}{E:Value->Shared->Prop}
end
section
variable {X:Cx}{o e value:Expr}{f:Str}{pos pos' tpos:Pos}{ta tv:TE}
end
section
variable {X:Cx}{pins:List (Addr×Obj)}{σ:St}{H:Hp}{s:Shared}{A:Around}{E:Value->Shared->Prop}{Q:Value->Shared->Prop}{c:Value}{b:Bool}
end
section
variable {X:Cx}{e:Expr}{es:List Expr}{te:TE}{t:TA}{pos:Pos}
end
section
variable {X:Cx}{pins:List (Addr×Obj)}{σ:St}{H:Hp}{s s':Shared}
end
section
variable {X:Cx}{CX:CXT}{k:Nat}{f C:Addr}{fd:FuncData}{ps:List Str}{sp:Sp}{dvs:List V}{ds:List Value}{E:XK}{x m:Str}{p pos apos:Pos}{e o:Expr}{es:List Expr}{ta:TE}{t:TA}
end
section
variable {X:Cx}{CX:CXT}{k:Nat}{f C:Addr}{fd:FuncData}{ps ks:List Str}{sp:Sp}{E:XK}{x m:Str}{p pos apos kpos:Pos}{e o:Expr}{es:List Expr}{kws:List Keyword}{te ta:TE}{t tk:TA}{nm:Option Str}
variable {g:List Value->List Value->List Value}{gV:List V->List V->List V}
end
section
variable {X:Cx}{x:Str}{p pos:Pos}{e:Expr}{es:List Expr}{t:TA}{id T:String}{r:List V->Hp->VK->Prop}
end
section
variable {κ:Type}[DecidableEq κ]
def eO (kvs:List (κ×V))(k:κ):Option V:=(kvs.find? fun kv=>decide (kv.1=k)).map (·.2)
def fT (kvs:List (κ×V))(k:κ)(v:V):List (κ×V) :=
 if (kvs.any fun kv=>decide (kv.1=k))=true then kvs.map (fun kv=>if kv.1=k then (kv.1,v) else kv) else kvs++[(k,v)]
def uG (kvs:List (κ×V))(k:κ):List (κ×V):=kvs.filter fun kv=>decide (kv.1≠k)
theorem gS {p:κ×V}{r:List (κ×V)}{k:κ}(e:p.1=k):eO (p::r) k=some p.2:=by simp[eO,gz,e]
theorem fY {p:κ×V}{r:List (κ×V)}{k:κ}(e:¬ p.1=k):eO (p::r) k=eO r k:=by simp[eO,gz,e]
theorem rT (k:κ):∀ kvs:List (κ×V),(kvs.any fun kv=>decide (kv.1=k))=(eO kvs k).isSome
 | []=>rfl
 | p::r=>by
  rw[lb];by_cases e:p.1=k
  ·simp only [gS e,decide_eq_true e,Bool.true_or,Option.isSome_some]
  ·rw[fY e,decide_eq_false e,Bool.false_or];exact rT k r
theorem iZ (kvs:List (κ×V))(k:κ)(v:V):(fT kvs k v).length<=kvs.length+1:=by
 unfold fT;split
 ·rw[aR];omega
 ·rw[aq,a9,gj];omega
theorem Nj {kvs:List (κ×V)}{k:κ}(v:V)(h:eO kvs k=none):fT kvs k v=kvs++[(k,v)]:=by
 unfold fT;rw[rT,h];exact if_neg (by decide)
theorem jJ.isSome_eq {o:Option V}{u:Option Value}(r:jJ o u):o.isSome=u.isSome:=by
 cases o with
 | none=>cases u with
  | none=>rfl
  | some _=>exact (show False from r).elim
 | some _=>cases u with
  | none=>exact (show False from r).elim
  | some _=>rfl
theorem KV.val {kvs:List (κ×V)}{vs:List (κ×Value)}(r:KV kvs vs)(k:κ):jJ (eO kvs k) (valueAt vs k):=by
 unfold KV at r
 induction r with
 | nil=>exact True.intro
 | @cons p q ps qs h t ih =>
  obtain⟨h1,h2⟩:=h;by_cases e:p.1=k
  ·have e':q.1=k:=h1.symm.trans e
   have b:valueAt (q::qs) k=some q.2:=by simp[valueAt,gz,e']
   rw[gS e,b];exact h2
  ·have e':¬ q.1=k:=fun z=>e (h1.trans z)
   have b:valueAt (q::qs) k=valueAt qs k:=by simp[valueAt,gz,e']
   rw[fY e,b];exact ih
theorem KV.any {kvs:List (κ×V)}{vs:List (κ×Value)}(r:KV kvs vs)(k:κ):(kvs.any fun kv=>decide (kv.1=k))=vs.any fun kv=>decide (kv.1=k):=by
 unfold KV at r
 induction r with
 | nil=>rfl
 | cons h t ih=>rw[lb,lb,ih,h.1]
theorem KV.repl {kvs:List (κ×V)}{vs:List (κ×Value)}(r:KV kvs vs)(k:κ){y:V}{u:Value}(ry:bE y u) :
  KV (kvs.map fun kv=>if kv.1=k then (kv.1,y) else kv) (vs.map fun kv=>if kv.1=k then (kv.1,u) else kv):=by
 unfold KV at r ⊢
 induction r with
 | nil=>exact .nil
 | @cons p q ps qs h t ih =>
  rw[am,am];refine .cons ?_ ih;obtain⟨h1,h2⟩:=h;by_cases e:p.1=k
  ·rw[if_pos e,if_pos (h1.symm.trans e)];exact⟨h1,ry⟩
  ·rw[if_neg e,if_neg (fun z=>e (h1.trans z))];exact⟨h1,h2⟩
theorem KV.put {kvs:List (κ×V)}{vs:List (κ×Value)}(r:KV kvs vs)(k:κ){y:V}{u:Value}(ry:bE y u):KV (fT kvs k y) (stored vs k u):=by
 unfold fT stored;rw[r.any k];by_cases e:(vs.any fun kv=>decide (kv.1=k))=true
 ·rw[if_pos e,if_pos e];exact r.repl k ry
 ·rw[if_neg e,if_neg e];exact Paired.snoc r ⟨rfl,ry⟩
theorem KV.drop {kvs:List (κ×V)}{vs:List (κ×Value)}(r:KV kvs vs)(k:κ):KV (uG kvs k) (without vs k):=by
 unfold KV at r ⊢;unfold uG without
 induction r with
 | nil=>exact .nil
 | @cons p q ps qs h t ih =>
  obtain⟨h1,h2⟩:=h;rw[cu,cu];by_cases e:p.1=k
  ·have a:¬ decide (p.1≠k)=true:=by simp[e]
   have b:¬ decide (q.1≠k)=true:=by simp[h1.symm.trans e]
   rw[if_neg a,if_neg b];exact ih
  ·have e':¬ q.1=k:=fun z=>e (h1.trans z)
   have a:decide (p.1≠k)=true:=by simp[e]
   have b:decide (q.1≠k)=true:=by simp[e']
   rw[if_pos a,if_pos b];exact .cons ⟨h1,h2⟩ ih
theorem KV.keys {kvs:List (κ×V)}{vs:List (κ×Value)}(r:KV kvs vs):kvs.map (·.1)=vs.map (·.1):=by
 unfold KV at r
 induction r with
 | nil=>rfl
 | cons h t ih=>rw[am,am,ih,h.1]
theorem KV.length {kvs:List (κ×V)}{vs:List (κ×Value)}(r:KV kvs vs):kvs.length=vs.length:=Paired.length r
theorem Nb (kvs:List (κ×V))(k:κ):(uG kvs k).length<=kvs.length:=db _ _
end
theorem pX {P:Program}{w:World}{k:Key}{u:Value}(r:bE (kV k) u):(bD P w).is k u=true:=by
 cases k with
 | inl i=>obtain⟨t,e⟩:=(show ∃ t,u=Value.int i t from r);subst e;exact Bj P w i t
 | inr x=>obtain⟨t,e⟩:=(show ∃ t,u=Value.str x t from r);subst e;exact Cj P w x t
theorem wQ {P:Program}{w:World}:∀ {ks:List Key} {us:List Value},bR (ks.map kV) us->ItemsAre (bD P w) ks us
 | [],_,r=>by rw[g7] at r;cases r;exact .nil
 | k::ks,_,r=>by
  rw[am] at r
  cases r with
  | cons h t=>exact .cons (pX h) (wQ t)
abbrev KT (H:Hp):List (List Key×V)->List (List Key×Addr×Value)->Prop:=Paired fun p q=>p.1=q.1∧H q.2.1=some (.tup (p.1.map kV))∧bE p.2 q.2.2
theorem KT.val {H:Hp}{kvs:List (List Key×V)}{xs:List (List Key×Addr×Value)}(r:KT H kvs xs)(k:List Key):jJ (eO kvs k) ((atKey xs k).map (·.2)):=by
 induction r with
 | nil=>exact True.intro
 | @cons p q ps qs h t ih =>
  obtain⟨h1,_,h2⟩:=h;by_cases e:p.1=k
  ·have e':q.1=k:=h1.symm.trans e
   have b:atKey (q::qs) k=some q.2:=by simp[atKey,gz,e']
   rw[gS e,b];exact h2
  ·have e':¬ q.1=k:=fun z=>e (h1.trans z)
   have b:atKey (q::qs) k=atKey qs k:=by simp[atKey,gz,e']
   rw[fY e,b];exact ih
theorem KT.repl {H:Hp}{kvs:List (List Key×V)}{xs:List (List Key×Addr×Value)}(r:KT H kvs xs)(k:List Key){y:V}{u:Value}(ry:bE y u) :
  KT H (kvs.map fun kv=>if kv.1=k then (kv.1,y) else kv) (xs.map (putAt k u)):=by
 induction r with
 | nil=>exact .nil
 | @cons p q ps qs h t ih =>
  rw[am,am];refine .cons ?_ ih;obtain⟨h1,h2,h3⟩:=h;unfold putAt;by_cases e:p.1=k
  ·rw[if_pos e,if_pos (h1.symm.trans e)];exact⟨h1,h2,ry⟩
  ·rw[if_neg e,if_neg (fun z=>e (h1.trans z))];exact⟨h1,h2,h3⟩
theorem KT.put {H:Hp}{kvs:List (List Key×V)}{xs:List (List Key×Addr×Value)}(r:KT H kvs xs)(k:List Key){b:Addr}{y:V}{u:Value}(hb:H b=some (.tup (k.map kV)))(ry:bE y u) :
  KT H (fT kvs k y) (storedH xs k b u):=by
 have e:(kvs.any fun kv=>decide (kv.1=k))=(atKey xs k).isSome:=by
  rw[rT,(r.val k).isSome_eq,qu]
 unfold fT storedH;rw[e];by_cases q:(atKey xs k).isSome=true
 ·rw[if_pos q,if_pos q];exact r.repl k ry
 ·rw[if_neg q,if_neg q];exact Paired.snoc r ⟨rfl,hb,ry⟩
theorem KT.keeps {H H':Hp}{kvs:List (List Key×V)}{xs:List (List Key×Addr×Value)}(r:KT H kvs xs)(ht:∀ b ys,H b=some (.tup ys)->H' b=some (.tup ys)):KT H' kvs xs :=
 Paired.mapP r fun _ _ z=>⟨z.1,ht _ _ z.2.1,z.2.2⟩
section
variable {P:Program}{w:World}{H:Hp}{h:Heap}{a:Addr}
theorem Rv {u:HO}(ok:HOk P w H h)(e:Rd H a u):cH P w H h a u:=e.ok ok
theorem wE {kvs:List (Key×V)}(ok:HOk P w H h)(e:Rd H a (.dK kvs)):kvs.length<=sizeLine∧(a==sysModules)=false∧∃ vs,KV kvs vs∧h.DictOf (bD P w) a vs :=
 show cH P w H h a (.dK kvs) from Rv ok e
theorem kQ {kvs:List (Key×V)}(ok:HOk P w H h)(e:H a=some (.dK kvs)):kvs.length<=sizeLine∧(a==sysModules)=false∧∃ vs,KV kvs vs∧h.DictOf (bD P w) a vs:=wE ok (.inl e)
theorem yE {ks:List Key}(ok:HOk P w H h)(e:H a=some (.tup (ks.map kV))):(tupleKind (bD P w)).is h ks a:=by
 obtain⟨_,its,r,o,h1,h2,n,h3⟩:=(show cH P w H h a (.tup (ks.map kV)) from ok a _ e);exact⟨o,its.toArray,n,h1,h2,h3,by simpa using wQ r⟩
theorem Aj {kvs:List (List Key×V)}(ok:HOk P w H h)(e:Rd H a (.dT kvs)):kvs.length<=sizeLine∧(a==sysModules)=false ∧
  ∃ xs,KT H kvs xs∧h.DictOfH (tupleKind (bD P w)) a xs:=by
 obtain⟨z,y,xs,r,o,es,ep,h1,h2,h3,h4,h5⟩:=(show cH P w H h a (.dT kvs) from Rv ok e);refine⟨z,y,xs,r,o,es,ep,h1,h2,h3,h4,fun x hx=>?_,h5⟩;have all:∀ {l:List (List Key×V)} {m:List (List Key×Addr×Value)},KT H l m->∀ x∈m,(tupleKind (bD P w)).is h x.1 x.2.1:=by
  intro l m q
  induction q with
  | nil=>intro x hx;exact nomatch hx
  | @cons p q ps qs hq t ih =>
   intro x hx;rcases aw.mp hx with e | hx
   ·subst e
    exact yE ok (by rw[<- hq.1];exact hq.2.1)
   ·exact ih x hx
 exact all r x hx
theorem Uq {kvs:List (List Key×V)}(ok:HOk P w H h)(e:H a=some (.dT kvs)):kvs.length<=sizeLine∧(a==sysModules)=false ∧
 ∃ xs,KT H kvs xs∧h.DictOfH (tupleKind (bD P w)) a xs:=Aj ok (.inl e)
end
def nL (H:Hp)(a:Addr)(y:V)(r:Option V):Prop :=
 (∃ kvs k,Rd H a (.dK kvs)∧y=kV k∧r=eO kvs k)∨∃ kvs k b,Rd H a (.dT kvs)∧y = .ref b∧H b=some (.tup (k.map kV))∧r=eO kvs k
def sB (H:Hp)(a:Addr)(y v:V)(H':Hp):Prop :=
 (∃ kvs k,H a=some (.dK kvs)∧y=kV k∧kvs.length<sizeLine∧H'=upd H a (.dK (fT kvs k v))) ∨
 ∃ kvs k b,H a=some (.dT kvs)∧y = .ref b∧H b=some (.tup (k.map kV))∧kvs.length<sizeLine∧H'=upd H a (.dT (fT kvs k v))
theorem nL.k {H:Hp}{a:Addr}{kvs:List (Key×V)}{k:Key}(e:H a=some (.dK kvs)):nL H a (kV k) (eO kvs k):=.inl ⟨kvs,k,.inl e,rfl,rfl⟩
theorem sB.k {H:Hp}{a:Addr}{kvs:List (Key×V)}{k:Key}{v:V}(e:H a=some (.dK kvs))(hl:kvs.length<sizeLine):sB H a (kV k) v (upd H a (.dK (fT kvs k v))):=.inl ⟨kvs,k,e,rfl,hl,rfl⟩
section
variable {X:Cx}{pins:List (Addr×Obj)}{σ:St}{H:Hp}{s:Shared}{a:Addr}{y v:V}{u r:Value}{o:Option V}{A:Around}{E:Value->Shared->Prop}
theorem Inv.big (I:Inv X pins σ H s):sysModules<s.heap.objs.size:=by
 have h:mainGlobals<s.heap.objs.size:=(I.mod.glob.keeps I.bk).lt;exact nq (by decide) h
theorem Jx {Q:Value->Shared->Prop}(hu:A.units+1<cLine)(I:Inv X pins σ H s)(g:nL H a y (some v))(ry:bE y u)(h:∀ w' s',Inv X pins σ H s'->bE v w'->Q w' s') :
  wpAny (model X.prog X.w) A (getItem (.ref a) u) Q E s:=by
 rcases g with ⟨kvs,k,e,ey,l⟩ | ⟨kvs,k,b,e,ey,eb,l⟩
 ·subst ey
  obtain⟨z,hd,vs,rel,dd⟩:=wE I.hok e;obtain⟨w',hw,rw'⟩:=jJ.some_of (v:=v) (o:=valueAt vs k) (by rw[l];exact rel.val k);exact wpAny_getItem_of (pX ry) dd.mapOf hw (h w' _ (I.tok _) rw')
 ·subst ey
  cases (show u=Value.ref b from ry);obtain⟨z,hd,xs,rel,dd⟩:=Aj I.hok e;obtain⟨w',hw,rw'⟩:=jJ.some_of (v:=v) (o:=(atKey xs k).map (·.2)) (by rw[l];exact rel.val k);obtain⟨p,hp,hp2⟩:=bi.mp hw;refine wpAny_getItem_heap (tupleKind_room_in1 hu) (yE I.hok eb) dd hp ?_;rw[hp2];exact h w' _ (I.tok _) rw'
theorem Yb {Q:Value->Shared->Prop}(hu:A.units+1<cLine)(I:Inv X pins σ H s)(g:nL H a y o)(ry:bE y u)(h:∀ s',Inv X pins σ H s'->Q (.bool o.isSome) s') :
  wpAny (model X.prog X.w) A (compareOp .In u (.ref a)) Q E s:=by
 rcases g with ⟨kvs,k,e,ey,l⟩ | ⟨kvs,k,b,e,ey,eb,l⟩
 ·subst ey
  obtain⟨z,hd,vs,rel,dd⟩:=wE I.hok e;refine wpAny_in_of (pX ry) hd dd.mapOf ?_;rw[<- (rel.val k).isSome_eq,<- l];exact h _ (I.tok _)
 ·subst ey
  cases (show u=Value.ref b from ry);obtain⟨z,hd,xs,rel,dd⟩:=Aj I.hok e;refine wpAny_in_heap (tupleKind_room_in1 hu) (yE I.hok eb) hd dd ?_;have q:=(rel.val k).isSome_eq;rw[qu] at q;rw[<- q,<- l];exact h _ (I.tok _)
theorem mX {h':Heap}{t':Nat}{ob:HO}(I:Inv X pins σ H s)(mu:Mut (H a))(hs:Heap.SameBut a s.heap h')(he:∃ q,h'.get? a=some q)(new:cH X.prog X.w (upd H a ob) h' a ob) :
  Inv X pins σ (upd H a ob) { s with heap:=h',toks:=t' } :=
 I.write (x:=a) (e:=a) mu (.inl rfl) (fun b q hb z=>(hs.2 b hb).trans z) he new
theorem zH {P:Program}{w:World}{H':Hp}{h':Heap}{kvs:List (Key×V)}{vs:List (Key×Value)}(z:kvs.length<=sizeLine)(hd:(a==sysModules)=false)(rel:KV kvs vs)(dd:h'.DictOf (bD P w) a vs) :
 cH P w H' h' a (.dK kvs):=⟨z,hd,vs,rel,dd⟩
theorem Ix {H':Hp}{Q:Unit->Shared->Prop}(hu:A.units+1<cLine)(I:Inv X pins σ H s)(g:sB H a y v H')(ry:bE y u)(rv:bE v r)(h:∀ s',Inv X pins σ H' s'->Q () s') :
  wpAny (model X.prog X.w) A (setItem (.ref a) u r) Q E s:=by
 rcases g with ⟨kvs,k,e,ey,l,eH⟩ | ⟨kvs,k,b,e,ey,eb,l,eH⟩
 ·subst ey eH
  obtain⟨z,hd,vs,rel,dd⟩:=kQ I.hok e;have hz:vs.length<=sizeLine:=by rw[<- rel.length];exact z
  have hl:(fT kvs k v).length<=sizeLine:=by have:=iZ kvs k v;omega
  refine wpAny_setItem_pairs (hsz:=hz) (pX ry) dd fun h' dd' hs=>h _ ?_
  have he:∃ q,h'.get? a=some q:=let ⟨q,_,_,hq,_⟩:=dd';⟨q,hq⟩
  exact mX I (by rw[e];exact True.intro) hs he (zH hl hd (rel.put k rv) dd')
 ·subst ey eH
  cases (show u=Value.ref b from ry);obtain⟨z,hd,xs,rel,dd⟩:=Uq I.hok e;have hz:xs.length<=sizeLine:=by rw[<- Paired.length rel];exact z
  have hl:(fT kvs k v).length<=sizeLine:=by have:=iZ kvs k v;omega
  refine wpAny_setItem_heap (hsz:=hz) (tupleKind_room_in1 hu) (yE I.hok eb) dd fun h' dd' hs=>h _ ?_
  obtain⟨q,es,ep,hq,h2,h3,h4,_,h5⟩:=dd';refine mX I (by rw[e];exact True.intro) hs ⟨q,hq⟩ ⟨hl,hd,_,(rel.put k eb rv).keeps fun c ys ec=>?_,q,es,ep,hq,h2,h3,h4,h5⟩;rw[aK (Wr ec e (fun z=>nomatch z))];exact ec
end
section
variable {X:Cx}{pins:List (Addr×Obj)}{σ:St}{H:Hp}{s:Shared}{a:Addr}{kvs:List (Key×V)}{k:Key}{u:Value}{A:Around}{E:Value->Shared->Prop}
theorem Wp {v:V}{more:List Value}{Q:Value->Shared->Prop}(I:Inv X pins σ H s)(e:H a=some (.dK kvs))(ry:bE (kV k) u)(l:eO kvs k=some v)(hm:more=[]∨∃ x,more=[x])
  (h:∀ w' s',Inv X pins σ (upd H a (.dK (uG kvs k))) s'->bE v w'->Q w' s'):wpAny (model X.prog X.w) A (call (.builtin "dict.pop") (.ref a::u::more)) Q E s:=by
 obtain⟨z,hd,vs,rel,dd⟩:=kQ I.hok e;obtain⟨w',hw,rw'⟩:=jJ.some_of (v:=v) (o:=valueAt vs k) (by rw[<- l];exact rel.val k);have hp:(keyPart u).isSome=true:=by
  cases k with
  | inl i=>obtain⟨t,q⟩:=(show ∃ t,u=Value.int i t from ry);subst q;rfl
  | inr x=>obtain⟨t,q⟩:=(show ∃ t,u=Value.str x t from ry);subst q;rfl
 have ha:argsOk "dict.pop" ⟨.ref a::u::more,[]⟩:=by
  rcases hm with q | ⟨x,q⟩
  ·subst q;exact PySem.F.args_dict_pop_2 _ _
  ·subst q;exact m8 _ _ _
 refine call_meetsIn ku dd.typeIs nr ha (meets_dict_pop_there (bD X.prog X.w) a (pX ry) more hm hp)
  ⟨vs,w',dd,by rw[<- rel.length];exact z,hw,fun h' dd' hs=>h w' _ ?_ rw'⟩
 have he:∃ q,h'.get? a=some q:=let ⟨q,_,_,hq,_⟩:=dd';⟨q,hq⟩
 exact mX I (by rw[e];exact True.intro) hs he (zH (a5 (Nb kvs k) z) hd (rel.drop k) dd')
theorem Ss {r:Value}{Q:Value->Shared->Prop}(I:Inv X pins σ H s)(e:H a=some (.dK kvs))(ry:bE (kV k) u)(l:eO kvs k=none)(h:∀ s',Inv X pins σ H s'->Q r s') :
  wpAny (model X.prog X.w) A (call (.builtin "dict.pop") [.ref a,u,r]) Q E s:=by
 obtain⟨z,hd,vs,rel,dd⟩:=kQ I.hok e;have hn:valueAt vs k=none:=jJ.none_of (by rw[<- l];exact rel.val k);have hp:(keyPart u).isSome=true:=by
  cases k with
  | inl i=>obtain⟨t,q⟩:=(show ∃ t,u=Value.int i t from ry);subst q;rfl
  | inr x=>obtain⟨t,q⟩:=(show ∃ t,u=Value.str x t from ry);subst q;rfl
 exact call_meetsIn ku dd.typeIs nr (m8 _ _ _) (meets_dict_pop_default (bD X.prog X.w) a (pX ry) hd hp r) ⟨vs,dd,hn,h _ (I.tok _)⟩
theorem Um {Q:Value->Shared->Prop}(I:Inv X pins σ H s)(e:Rd H a (.dK kvs))(h:∀ t s',Inv X pins σ H s'->Q (.int kvs.length t) s'):wpAny (model X.prog X.w) A (call (.builtin "len") [.ref a]) Q E s:=by
 obtain⟨z,hd,vs,rel,dd⟩:=wE I.hok e;refine call_len_dict hd dd (by rw[<- rel.length];rw[sizeLine_eq] at z;omega) ?_;rw[<- rel.length];exact h _ _ (I.tok _)
end
def Vi (i:Expr):Prop:=∀ ov iv,subscripted i false ov iv=operate [ov,iv] (getItem ov iv)
theorem Qh {prog:Program}{w:World}{A:Around}{E:Value->Shared->Prop}{s:Shared}{env:Env}{value slice:Expr}{pos:Pos}{T id:String}{Q:Value->Shared->Prop}
  (hl:typeLookup (.type T) "__getitem__" = pure (some (.builtin id))) (hs:Vi slice)
  (h:wpAny (model prog w) A (eval value env) (fun o s₁=>wpAny (model prog w) A (eval slice env) (fun i s₂=>s₂.TypeIs o T∧wpAny (model prog w) A (getItem o i) Q E s₂) E s₁) E s) :
  wpAny (model prog w) A (eval (.Subscript value slice pos) env) Q E s:=by
 refine Subscript_ (wpAny_mono h (fun o s₁ h₁=>wpAny_mono h₁ (fun i s₂ h₂=>?_) fun _ _ x=>x) fun _ _ x=>x);obtain⟨hT,h₂⟩:=h₂;unfold subscriptTail;refine wpAny_bind ?_;rw[getitemInPython_of_ne hT.not_modules];refine wpAny_bind (wpAny_specialOf hT hl ?_);have fin:wpAny (model prog w) A (subscripted slice false o i) (fun r s₃=>wpAny (model prog w) A (letTemporaryGo value o r >>= fun _=>pure r) Q E s₃) E s₂:=by
  rw[hs o i];exact wpAny_operating (wpAny_mono h₂ (fun r s₃ h₃=>wpAny_bind (wpAny_letTemporaryGo (wpAny_pure h₃))) fun _ _ x=>x)
 first
  | exact wpAny_pure (wpAny_bind fin)
  | exact wpAny_bind (wpAny_pure (wpAny_bind fin))
  | exact wpAny_bind fin
theorem Aq {X:Cx}{pins:List (Addr×Obj)}{σ:St}{H:Hp}{s:Shared}{a:Addr}{y:V}{o:Option V}(I:Inv X pins σ H s)(g:nL H a y o):s.TypeIs (.ref a) "dict" := by
 rcases g with ⟨kvs,k,e,_,_⟩ | ⟨kvs,k,b,e,_,_,_⟩
 ·obtain⟨_,_,vs,_,dd⟩:=wE I.hok e
  exact dd.typeIs
 ·obtain⟨_,_,xs,_,dd⟩:=Aj I.hok e
  exact dd.typeIs
def Wk (td ty:TE):TE:=fun σ H Q=>td σ H fun x H1=>ty σ H1 fun y H2=>∃ a v,x = .ref a∧nL H2 a y (some v)∧Q v H2
def Xz (ty td:TE):TE:=fun σ H Q=>ty σ H fun y H1=>td σ H1 fun x H2=>∃ a o,x = .ref a∧nL H2 a y o∧Q (.bl o.isSome) H2
def Ur (td ty tv:TE):TS:=fun D σ H=>tv σ H fun v H1=>td σ H1 fun x H2=>ty σ H2 fun y H3=>∃ a H4,x = .ref a∧sB H3 a y v H4∧D.nx σ H4
section
variable {X:Cx}{o i e value:Expr}{pos pos' tpos:Pos}{td ty tv:TE}
theorem jY (hu:X.A.units+1<cLine)(ho:PE X o td)(hi:PE X i ty)(hs:Vi i):PE X (.Subscript o i pos) (Wk td ty):=by
 intro pins s σ H Q I h;refine Qh PySem.F.slot_dict_getitem.lookup hs (thn (ho pins s σ H _ I h) fun u s1 ⟨x,H1,I1,rx,q1⟩=>thn (hi pins s1 σ H1 _ I1 q1) fun iv s2 ⟨y,H2,I2,ry,a,v,ex,g,q2⟩=>?_);subst ex;obtain rfl:u=Value.ref a:=rx;exact⟨Aq I2 g,Jx hu I2 g ry fun w' s3 I3 rw'=>⟨v,H2,I3,rw',q2⟩⟩
theorem Kz (hu:X.A.units+1<cLine)(hi:PE X i ty)(ho:PE X o td):PC X .In i o (Xz ty td):=by
 intro pins s σ H Q I h;refine thn (hi pins s σ H _ I h) fun iv s1 ⟨y,H1,I1,ry,q1⟩=>thn (ho pins s1 σ H1 _ I1 q1) fun u s2 ⟨x,H2,I2,rx,a,ov,ex,g,q2⟩=>?_
 subst ex;obtain rfl:u=Value.ref a:=rx;exact Yb hu I2 g ry fun s3 I3=>⟨.bl ov.isSome,H2,I3,rfl,q2⟩
theorem rB (hu:X.A.units+1<cLine)(ho:PE X o td)(hi:PE X i ty)(hv:PE X value tv)(hs:swapsWith value (some (.Subscript o i pos')) pos.line X.env=pure false) :
  PS X (.Assign [.Subscript o i pos'] value pos) (Ur td ty tv):=by
 intro pins s σ H D I h;refine wpAny_Assign_Subscript (thn (hv pins s σ H _ I h) fun r s1 ⟨v,H1,I1,rv,q1⟩=>thn (ho pins s1 σ H1 _ I1 q1) fun u s2 ⟨x,H2,I2,rx,q2⟩=>thn (hi pins s2 σ H2 _ I2 q2) fun iv s3 ⟨y,H3,I3,ry,a,H4,ex,g,q3⟩=>?_) hs;subst ex;obtain rfl:u=Value.ref a:=rx;exact Ix hu I3 g ry rv fun s4 I4=>⟨σ,H4,I4,q3⟩
end
theorem Bz {P:Program}{w:World}{H:Hp}(h:Heap)(hb:sysModules<h.objs.size):cH P w H (h.push { cls:=.type "dict",data:=.dict #[] }) h.objs.size (.dK []) :=
 ⟨b8 _,beq_eq_false_iff_ne.mpr (Ne.symm (a7 hb)),[],.nil,Heap.DictOf.new h⟩
def Ti:TE:=fun _ H Q=>∀ p,H p=none->Q (.ref p) (upd H p (.dK []))
section
variable {X:Cx}{pos:Pos}
theorem Aa:PE X (.Dict [] [] pos) Ti:=fun pins s σ H Q I h =>
 wpAny_Dict_empty ⟨.ref s.heap.objs.size,_,I.laid (a:=s.heap.objs.size) (o:=.dK []) (t':=s.toks) (fun _ _ q=>Heap.get?_push_of_some _ q) (af _) (Bz s.heap I.big),rfl,h _ (I.hok.fresh (af _))⟩
end
def yW:List (TE×TE)->St->Hp->(List (V×V)->Hp->Prop)->Prop
 | [],_,H,Q=>Q [] H
 | (tk,tv)::r,σ,H,Q=>tk σ H fun x H1=>tv σ H1 fun y H2=>yW r σ H2 fun ps H3=>Q ((x,y)::ps) H3
abbrev VV:List (V×V)->List (Value×Value)->Prop:=Paired fun p q=>bE p.1 q.1∧bE p.2 q.2
def PPs (X:Cx)(pos:Pos)(keys:List (Option Expr))(values:List Expr)(trs:List (TE×TE)):Prop :=
 ∀ (pins:List (Addr×Obj)) (s:Shared) (σ:St) (H:Hp) (Q:List (V×V)->Hp->Prop),Inv X pins σ H s->yW trs σ H Q ->
  wpAny (model X.prog X.w) X.A (evalPairs (pairTrees keys values X.env pos)) (fun vs s'=>∃ ps H',Inv X pins σ H' s'∧VV ps vs∧Q ps H') X.xe s
theorem Qf {X:Cx}{pos:Pos}:PPs X pos [] [] []:=fun pins s σ H Q I h=>pairTrees_nil_walk ⟨[],H,I,.nil,h⟩
theorem Me {X:Cx}{pos:Pos}{k v:Expr}{ks:List (Option Expr)}{vs:List Expr}{tk tv:TE}{trs:List (TE×TE)}(hk:PE X k tk)(hv:PE X v tv)(hr:PPs X pos ks vs trs) :
  PPs X pos (some k::ks) (v::vs) ((tk,tv)::trs):=fun pins s σ H Q I h =>
 pairTrees_cons_walk (thn (hk pins s σ H _ I h) fun u s1 ⟨x,H1,I1,rx,q1⟩=>thn (hv pins s1 σ H1 _ I1 q1) fun w2 s2 ⟨y,H2,I2,ry,q2⟩ =>
  thn (hr pins s2 σ H2 _ I2 q2) fun ws s3 ⟨ps,H3,I3,rel,q3⟩=>⟨(x,y)::ps,H3,I3,.cons ⟨rx,ry⟩ rel,q3⟩)
def oC (kvs more:List (Key×V)):List (Key×V):=more.foldl (fun acc kv=>fT acc kv.1 kv.2) kvs
theorem KV.merge:∀ {more:List (Key×V)} {rs:List (Key×Value)} {kvs:List (Key×V)} {vs:List (Key×Value)},KV more rs->KV kvs vs->KV (oC kvs more) (merged vs rs):=by
 intro more rs kvs vs r;unfold KV at r
 induction r generalizing kvs vs with
 | nil=>intro q;exact q
 | @cons p q ps qs h t ih =>
  intro r0;have e:KV (fT kvs p.1 p.2) (stored vs q.1 q.2):=by
   have:=r0.put p.1 h.2
   rw[<- h.1];exact this
  exact ih e
theorem lT:∀ (more kvs:List (Key×V)),(oC kvs more).length<=kvs.length+more.length
 | [],kvs=>by show kvs.length<=kvs.length+0;omega
 | p::r,kvs=>by
  have h1:=lT r (fT kvs p.1 p.2);have h2:=iZ kvs p.1 p.2;show (oC (fT kvs p.1 p.2) r).length<=_;rw[a9];omega
theorem sC {P:Program}{w:World}:∀ {kvs:List (Key×V)} {ws:List (Value×Value)},VV (kvs.map fun kv=>(kV kv.1,kv.2)) ws->∃ rs,Carries (bD P w) ws rs∧KV kvs rs
 | [],_,r=>by rw[g7] at r;cases r;exact⟨[],True.intro,.nil⟩
 | p::kvs,_,r=>by
  rw[am] at r
  cases r with
  | @cons a b as bs h t =>
   obtain⟨rs,c,q⟩:=sC (P:=P) (w:=w) t;obtain⟨b1,b2⟩:=b;exact⟨(p.1,b2)::rs,⟨pX h.1,rfl,c⟩,.cons ⟨rfl,h.2⟩ q⟩
def Uk (trs:List (TE×TE)):TE:=fun σ H Q=>∀ p,H p=none->yW trs σ (upd H p (.dK [])) fun ps H2=>H2 p=some (.dK [])∧∃ kvs:List (Key×V),ps=kvs.map (fun kv=>(kV kv.1,kv.2))∧kvs.length<=15∧Q (.ref p) (upd H2 p (.dK (oC [] kvs)))
theorem Qz {X:Cx}{pos:Pos}{keys:List (Option Expr)}{values:List Expr}{trs:List (TE×TE)}(h:PPs X pos keys values trs)(hall:keys.all (·.isSome)=true)(hl:keys.length=values.length)(h0:keys≠[])
  (h15:keys.length<=15):PE X (.Dict keys values pos) (Uk trs):=by
 intro pins s σ H Q I q;have hn:=I.hok.fresh (af s.heap.objs.size);have I1:=I.laid (a:=s.heap.objs.size) (o:=.dK []) (h':=s.heap.push { cls:=.type "dict",data:=.dict #[] }) (t':=s.toks) (fun _ _ q=>Heap.get?_push_of_some _ q) (af _) (Bz s.heap I.big)
 refine wpAny_Dict_walk (knd:=bD X.prog X.w) hall hl h0 h15 (thn (h pins _ σ _ _ I1 (q _ hn)) fun ws s2 ⟨ps,H2,I2,rel,e,kvs,ep,lk,q2⟩=>?_);subst ep;obtain⟨rs,c,rk⟩:=sC (P:=X.prog) (w:=X.w) rel;obtain⟨z,hd,vs0,r0,dd⟩:=kQ I2.hok e;cases r0;refine⟨rs,c,dd,fun h' dd' hs=>⟨.ref s.heap.objs.size,_,?_,rfl,q2⟩⟩;have hz:(oC [] kvs).length<=sizeLine:=by
  have h1:=lT kvs [];rw[gj] at h1;rw[sizeLine_eq];omega
 have he:∃ q,h'.get? s.heap.objs.size=some q:=let ⟨q,_,_,hq,_⟩:=dd';⟨q,hq⟩
 exact mX I2 (by rw[e];exact True.intro) hs he (zH hz hd (rk.merge .nil) dd')
structure M1 (X:Cx)(o:Expr)(m:Str)(apos:Pos)(e:Expr)(cpos:Pos):Prop where
 base:attributeBase o m X.env (eval o X.env)=eval o X.env
 few:((backTo cpos (starEach [e] X.env)).all (fun x=>!x.1)&&(backToKw cpos (keywordEach [] X.env)).all (fun x=>x.1.isSome)
  && decide (([e]:List Expr).length+([]:List Keyword).length+(if ([]:List Keyword).isEmpty then 0 else 1)<30))=true
 line:(apos.endLine==cpos.line)=true
 trees:backTo cpos (starEach [e] X.env)=[(false,eval e X.env)]
structure M2 (X:Cx)(o:Expr)(m:Str)(apos:Pos)(e f:Expr)(cpos:Pos):Prop where
 base:attributeBase o m X.env (eval o X.env)=eval o X.env
 few:((backTo cpos (starEach [e,f] X.env)).all (fun x=>!x.1)&&(backToKw cpos (keywordEach [] X.env)).all (fun x=>x.1.isSome)
  && decide (([e,f]:List Expr).length+([]:List Keyword).length+(if ([]:List Keyword).isEmpty then 0 else 1)<30))=true
 line:(apos.endLine==cpos.line)=true
 trees:backTo cpos (starEach [e,f] X.env)=[(false,eval e X.env),(false,eval f X.env)]
def IsD (H:Hp)(a:Addr):Prop:=(∃ kvs,Rd H a (.dK kvs))∨∃ kvs,Rd H a (.dT kvs)
theorem Mw {X:Cx}{pins:List (Addr×Obj)}{σ:St}{H:Hp}{s:Shared}{a:Addr}(I:Inv X pins σ H s)(d:IsD H a) :
  s.TypeIs (.ref a) "dict" ∧ (∀ b,Value.ref a = .ref b->∃ ob,s.heap.get? b=some ob∧ob.dict=none)∧(a==sysModules)=false:=by
 rcases d with ⟨kvs,e⟩ | ⟨kvs,e⟩
 ·obtain⟨_,hd,vs,_,dd⟩:=wE I.hok e
  refine⟨dd.typeIs,fun b q=>?_,hd⟩;cases q;obtain⟨ob,_,_,h1,h2,_⟩:=dd;exact⟨ob,h1,h2.2.1⟩
 ·obtain⟨_,hd,xs,_,dd⟩:=Aj I.hok e
  refine⟨dd.typeIs,fun b q=>?_,hd⟩;cases q;obtain⟨ob,_,_,h1,h2,_⟩:=dd;exact⟨ob,h1,h2.2.1⟩
section
variable {X:Cx}{pins:List (Addr×Obj)}{σ:St}{H:Hp}{s:Shared}{a:Addr}{y d:V}{u r:Value}{o:Option V}{A:Around}{E:Value->Shared->Prop}
end
def Ts (td ty tx:TE):TE:=fun σ H Q=>td σ H fun x H1=>∃ a,x = .ref a∧IsD H1 a∧ty σ H1 fun y H2=>tx σ H2 fun z H3=>∃ kvs k,H3 a=some (.dK kvs)∧y=kV k ∧
 (∀ v,eO kvs k=some v->Q v (upd H3 a (.dK (uG kvs k))))∧(eO kvs k=none->Q z H3)
section
variable {X:Cx}{o e f:Expr}{apos cpos:Pos}{td ty tx:TE}
theorem Kl (ho:PE X o td)(he:PE X e ty)(hf:PE X f tx)(m:M2 X o "pop" apos e f cpos):PE X (.Call (.Attribute o "pop" apos) [e,f] [] cpos) (Ts td ty tx):=by
 intro pins s σ H Q I h;refine wpAny_Call_method m.base m.few m.line j8 ku PySem.F.type_dict_pop (thn (ho pins s σ H _ I h) fun u s1 ⟨x,H1,I1,rx,a,ex,d,q1⟩=>?_);subst ex;obtain rfl:u=Value.ref a:=rx;obtain⟨t1,t2,_⟩:=Mw I1 d;refine⟨t1,t2,?_⟩;rw[m.trees];refine Calls.callWith_builtin rfl (Calls.evalArgs_plain (Calls.spliced_cons (thn (he pins s1 σ H1 _ I1 q1) fun iv s2 ⟨y,H2,I2,ry,q2⟩ =>
  Calls.spliced_cons (thn (hf pins s2 σ H2 _ I2 q2) fun fv s3 ⟨z,H3,I3,rz,kvs,k,ea,ey,q3,q4⟩=>Calls.spliced_nil ?_))))
 subst ey
 cases l:eO kvs k with
 | some v=>exact Wp I3 ea ry l (.inr ⟨fv,rfl⟩) fun w' s4 I4 rw'=>⟨v,_,I4,rw',q3 v l⟩
 | none=>exact Ss I3 ea ry l fun s4 I4=>⟨z,H3,I4,rz,q4 l⟩
end
section
variable {X:Cx}{pins:List (Addr×Obj)}{σ:St}{H:Hp}{s:Shared}{a:Addr}{kvs:List (Key×V)}{A:Around}{E:Value->Shared->Prop}
end
section
variable {X:Cx}{pins:List (Addr×Obj)}{σ:St}{H:Hp}{s:Shared}{a:Addr}{y:V}{u:Value}{A:Around}{E:Value->Shared->Prop}
end
end L2
namespace Att
open PySem PySem.W PySem.Calls PyProof.Rows
section
variable {prog:Program}{w:World}{A:Around}{E:Value->Shared->Prop}{s:Shared}{K:Frag}
end
end Att
namespace L2
open PySem PySem.Spec PyProof.Rows
section
variable {P:Program}{w:World}{K:ae}{mg:Str->Option Value}{base:Heap}
end
section
variable {X:Cx}
theorem wL:eP X (.builtin "len") (fun xs H Q=>∃ a kvs,xs=[V.ref a]∧H a=some (.dK kvs)∧Q (.int kvs.length) H):=by
 intro pins s σ H xs us Q I r h;obtain⟨a,kvs,rfl,ha,q⟩:=h;obtain⟨u,rfl,ru⟩:=gD r;cases ru;exact Um I (.inl ha) fun t s' I'=>⟨.int kvs.length,H,I',⟨t,rfl⟩,q⟩
end
section
variable {κ:Type}[DecidableEq κ]
end
namespace RT
def obj (x:Str)(t:Tok)(i:Int):Obj:={ cls:=.type "reversed",data:=.fields #[.str x t,rawInt i] }
def Is (h:Heap)(a:Addr)(x:Str)(t:Tok)(i:Int):Prop:=∃ o,h.get? a=some o∧o.cls = .type "reversed" ∧ o.data = .fields #[.str x t,rawInt i]
section
variable {prog:Program}{w:World}{A:Around}{E:Value->Shared->Prop}{s:Shared}
end
end RT
section
variable {X:Cx}
end
structure Cam (P:Program)(w:World)(K:ae)(mg:Str->Option Value)(base:Heap)(CX:CXT)(x:Str)(C:Addr)(k:Nat)(ps:List Str)(sp:Sp):Prop where
 ex:∃ (f:Addr) (fd:FuncData),bQ P w K mg base CX k f fd ps sp∧Mk K C f∧mg x=some (.ref C)∧nU K fd ps []
section
variable {X:Cx}
theorem Tz {CX:CXT}{x:Str}{C:Addr}{j k:Nat}{ps:List Str}{sp:Sp}{E:XK}{e:Expr}{es:List Expr}{t:TA}{p pos:Pos}(c:Cam X.prog X.w X.K X.mg X.base CX x C j ps sp)(hr:gX k X.A)(hx:kX CX X E)(ha:PA X (e::es) t)
  (hjk:j+1<=k:=by decide) (hg:Gl X x:=by rfl) (b1:(x==("__debug__" : Str))=false:=by decide) (b2:starEach (e::es) X.env=(false,eval e X.env)::starEach es X.env:=by rfl) (b3:(backTo pos (starEach es X.env)).any (·.1)=false:=by rfl) :
  PE X (.Call (.Name x p) (e::es) [] pos) (Rg C sp [] E t):=by
 obtain⟨f,fd,F,M,hm,hb⟩:=c.ex;exact Qt M F (hr.mono hjk) hg hm hb .nil hx ha b1 b2 b3
end
namespace SE
section
variable {prog:Program}{w:World}{A:Around}{E:Value->Shared->Prop}{s:Shared}
end
end SE
section
variable {X:Cx}
end
end L2
namespace ST
open PySem PySem.SetTable
def it (M:Nat):Nat->Nat->Nat
 | 0,i=>i
 | s+1,i=>it M s ((i*5+1) % M)
theorem zA (M:Nat):∀ s t i,it M (s+t) i=it M t (it M s i)
 | 0,t,i=>by rw[ix];rfl
 | s+1,t,i=>by rw[qb];exact zA M s t _
def Fq (M:Nat):Nat->Nat->List Nat
 | 0,_=>[]
 | s+1,i=>i::Fq M s ((i*5+1) % M)
theorem Ad {M:Nat}:∀ {n i j:Nat},j∈Fq M n i->∃ s,s<n∧it M s i=j
 | n+1,i,j,h=>by
  rw[Fq,aw] at h;rcases h with h | h
  ·exact⟨0,by omega,h.symm⟩
  ·obtain⟨s,h1,h2⟩:=Ad h
   exact⟨s+1,by omega,h2⟩
def full (M:Nat):Bool:=it M M 0==0&&(cf M).all fun j=>(Fq M M 0).contains j
theorem Jt {M:Nat}(h:full M=true){a j:Nat}(ha:a<M)(hj:j<M):∃ s,s<M∧it M s a=j:=by
 rw[full,cr,beq_iff_eq,fe] at h;have hit:∀ x,x<M->∃ s,s<M∧it M s 0=x:=fun x hx=>Ad (by have:=h.2 x (cx.mpr hx);simpa using this)
 obtain⟨s0,h0,e0⟩:=hit a ha;obtain⟨s1,h1,e1⟩:=hit j hj;rcases du s1 s0 with z | z
 ·refine⟨M-s0+s1,by omega,?_⟩
  have w:it M (M-s0) a=0:=by rw[<- e0,<- zA,show s0+(M-s0)=M by omega,h.1]
  rw[zA,w,e1]
 ·refine⟨s1-s0,by omega,?_⟩
  rw[<- e0,<- zA,show s0+(s1-s0)=s1 by omega,e1]
def vJ (M:Nat):Prop:=M=8∨M=16∨M=32∨M=64∨M=128∨M=256∨M=512
theorem vJ.full {M:Nat}(h:vJ M):full M=true:=by
 rcases h with rfl | rfl | rfl | rfl | rfl | rfl | rfl <;> decide +kernel
theorem vJ.pos {M:Nat}(h:vJ M):8<=M:=by
 rcases h with rfl | rfl | rfl | rfl | rfl | rfl | rfl <;> decide
def lp (mask:Nat):Nat->Nat->Nat->Nat×Nat
 | 0,i,p=>(i,p)
 | s+1,i,p=>lp mask s (leap mask i p).1 (leap mask i p).2
theorem Kw (mask:Nat):∀ s t i p,lp mask (s+t) i p=lp mask t (lp mask s i p).1 (lp mask s i p).2
 | 0,t,i,p=>by rw[ix];rfl
 | s+1,t,i,p=>by rw[qb];exact Kw mask s t _ _
theorem Vx (mask:Nat):∀ s i p,(lp mask s i p).2=p/32 ^ s
 | 0,i,p=>by rw[Nat.pow_zero,Nat.div_one];rfl
 | s+1,i,p=>by
  show (lp mask s _ (p/32)).2=_;rw[Vx mask s,Nat.div_div_eq_div_mul,kl,c9]
theorem Sb (mask:Nat):∀ s i,(lp mask s i 0).1=it (mask+1) s i
 | 0,i=>rfl
 | s+1,i=>by
  show (lp mask s ((i*5+1+0/32) % (mask+1)) (0/32)).1=_;rw[Nat.zero_div,ko];exact Sb mask s _
theorem Rx (mask:Nat):∀ s i p,i<mask+1->(lp mask s i p).1<mask+1
 | 0,i,p,h=>h
 | s+1,i,p,h=>Rx mask s _ _ (jf _ (qt _))
theorem Hy (mask i:Nat):i<=runEnd mask i:=by
 unfold runEnd;split <;> omega
theorem wX {mask:Nat}{owner:Array (Option Nat)}:∀ {fuel i p:Nat},layClean.free mask owner fuel i p=none->∀ s,s<fuel->(owner.getD (lp mask s i p).1 (some 0)).isNone=false
 | fuel+1,i,p,h,s,hs=>by
  rw[layClean.free] at h;split at h
  ·cases h
  ·rename_i hf
   cases s with
   | zero =>
    have:=qc.mp hf 0 (cx.mpr (by have:=Hy mask i;omega))
    rw[ko] at this;exact jc.mpr this
   | succ s=>exact wX h s (by omega)
theorem wF {mask:Nat}{owner:Array (Option Nat)}:∀ {fuel i p j:Nat},layClean.free mask owner fuel i p=some j->(owner.getD j (some 0)).isNone=true
 | fuel+1,i,p,j,h=>by
  rw[layClean.free] at h;split at h
  ·rename_i k hf
   cases h
   have:=r6 hf
   exact this
  ·exact wF h
theorem Qe {mask:Nat}{owner:Array (Option Nat)}{i p j:Nat}(hM:vJ (mask+1))(hi:i<mask+1)(hp:p<2 ^ 64)(hj:j<mask+1)(he:(owner.getD j (some 0)).isNone=true) :
  ∃ k,layClean.free mask owner (turns mask) i p=some k∧(owner.getD k (some 0)).isNone=true:=by
 cases hf:layClean.free mask owner (turns mask) i p with
 | some k=>exact⟨k,rfl,wF hf⟩
 | none =>
  exfalso;have h13:(lp mask 13 i p).2=0:=by
   rw[Vx];exact Nat.div_eq_of_lt (nq hp (by decide))
  obtain⟨s,hs,e⟩:=Jt hM.full (Rx mask 13 i p hi) hj;have z:=wX hf (13+s) (by unfold turns;omega);rw[Kw,h13,Sb,e,he] at z;cases z
theorem uD {α β:Type}{f g:α->Option β}:∀ l:List α,(∀ i∈l,f i=g i)->l.filterMap f=l.filterMap g
 | [],_=>rfl
 | x::l,h=>by
  have ih:=uD l fun i hi=>h i (ah _ hi)
  rw[gk,gk,h x (ar ..),ih]
def vals (N:Nat)(f:Nat->Option Nat):List Nat:=(cf N).filterMap f
theorem Li {f g:Nat->Option Nat}{j v:Nat}(hf:f j=none)(hg:g j=some v)(he:∀ i,i≠j->g i=f i):∀ l:List Nat,l.Nodup->j∈l->(l.filterMap g).Perm (v::l.filterMap f)
 | x::l,nd,hm=>by
  rw[ck] at nd;by_cases e:x=j
  ·subst e
   rw[ia hg,ju hf]
   have:l.filterMap g=l.filterMap f:=uD l fun i hi=>he i fun z=>nd.1 (z▸hi)
   rw[this]
  ·have hm':j∈l:=by
    rcases aw.mp hm with z | z
    ·exact absurd z.symm e
    ·exact z
   have ih:=Li hf hg he l nd.2 hm';have hx:=he x e
   cases h:f x with
   | none=>rw[ju (hx.trans h),ju h];exact ih
   | some y =>
    rw[ia (hx.trans h),ia h];exact (ih.cons y).trans (sh ..)
theorem Hj {f:Nat->Option Nat}:∀ l:List Nat,(∀ i∈l,(f i).isNone=false)->(l.filterMap f).length=l.length
 | [],_=>rfl
 | x::l,h=>by
  have hx:=h x (ar ..)
  cases e:f x with
  | none=>rw[e] at hx;cases hx
  | some y=>rw[ia e,a9,a9,Hj l fun i hi=>h i (ah _ hi)]
def xD (mask:Nat)(owner:Array (Option Nat))(k:Nat):Prop:=owner.size=mask+1∧(vals (mask+1) fun j=>owner.getD j none).Perm (cf k)
theorem getD_some {owner:Array (Option Nat)}{j:Nat}(h:j<owner.size):owner.getD j (some 0)=owner.getD j none:=by
 simp[si,h]
theorem Po {mask:Nat}(hM:vJ (mask+1)){owner:Array (Option Nat)}{k:Nat}(g:xD mask owner k)(hk:k<mask+1)(h:Int) :
  ∃ j,layClean.free mask owner (turns mask) (bits h % (mask+1)) (bits h)=some j∧xD mask (owner.setIfInBounds j (some k)) (k+1):=by
 obtain⟨hs,hp⟩:=g;obtain⟨j0,hj0,he0⟩:∃ j,j<mask+1∧(owner.getD j (some 0)).isNone=true:=by
  apply b6;intro hno
  have:=Hj (f:=fun j=>owner.getD j none) (cf (mask+1)) fun i hi=>by
   have hi':=cx.mp hi;have e:=getD_some (owner:=owner) (j:=i) (by omega)
   cases z:(owner.getD i none).isNone with
   | false=>rfl
   | true=>exact absurd ⟨i,hi',by rw[e];exact z⟩ hno
  rw[dj] at this;have h2:=hp.length_eq;rw[dj] at h2;unfold vals at h2;omega
 obtain⟨j,e1,e2⟩:=Qe hM (i:=bits h % (mask+1)) (p:=bits h) (jf _ (qt _)) (by unfold bits;omega) hj0 he0;have hj:j<owner.size:=by
  rcases du j owner.size with z | z
  ·exact z
  ·rw[si,dif_neg (by omega)] at e2
   cases e2
 refine⟨j,e1,by rw[Array.size_setIfInBounds];exact hs,?_⟩;have hf:(fun i=>owner.getD i none) j=none:=by
  show owner.getD j none=none;rw[getD_some hj] at e2
  cases z:owner.getD j none with
  | none=>rfl
  | some y=>rw[z] at e2;cases e2
 have hg:(fun i=>(owner.setIfInBounds j (some k)).getD i none) j=some k:=by
  show (owner.setIfInBounds j (some k)).getD j none=some k;simp[si,hj]
 have q:=Li hf hg (fun i hi=>by
  show (owner.setIfInBounds j (some k)).getD i none=owner.getD i none;rw[bt,bt,Array.getElem?_setIfInBounds_ne (Ne.symm hi)]) (cf (mask+1)) List.nodup_range (cx.mpr (by omega))
 refine q.trans ?_;rw[show cf (k+1)=cf k++[k] from oh];exact (hp.cons k).trans (List.perm_append_singleton ..).symm
theorem Oo {mask:Nat}(hM:vJ (mask+1)):∀ (hs:List Int) (owner:Array (Option Nat)) (k:Nat),xD mask owner k->k+hs.length<=mask+1 ->
  ∃ o',(hs.foldl (fun acc h=>do
   let (owner,k) <- acc
   let j <- layClean.free mask owner (turns mask) (bits h % (mask+1)) (bits h)
   pure (owner.setIfInBounds j (some k),k+1)) (some (owner,k)))=some (o',k+hs.length)∧xD mask o' (k+hs.length)
 | [],owner,k,g,_=>⟨owner,rfl,g⟩
 | h::hs,owner,k,g,hk=>by
  rw[a9] at hk;obtain⟨j,e,g'⟩:=Po hM g (by omega) h;obtain⟨o',e',g''⟩:=Oo hM hs _ _ g' (by omega);refine⟨o',?_,by rw[a9,show k+(hs.length+1)=k+1+hs.length by omega];exact g''⟩;rw[oj,a9,show k+(hs.length+1)=k+1+hs.length by omega,<- e']
  congr 1
  show (layClean.free mask owner (turns mask) (bits h % (mask+1)) (bits h)).bind _=_;rw[e];rfl
theorem Ml (mask:Nat):xD mask (r8 (mask+1) none) 0:=by
 refine⟨Array.size_replicate,?_⟩
 have:vals (mask+1) (fun j=>(r8 (mask+1) (none:Option Nat)).getD j none)=[]:=by
  unfold vals;refine List.filterMap_eq_nil_iff.mpr fun i _=>?_
  rw[bt,Array.getElem?_replicate];split <;> rfl
 rw[this];exact ik _
theorem Hr {mask finger moves:Nat}{led plain:Bool}{hashes:Array Int}(hM:vJ (mask+1))(hn:hashes.size<=mask) :
  ∃ (t:SetTable) (order:Array Nat),laid mask finger moves led plain hashes=some (t,order)∧order.toList.Perm (cf hashes.size)∧t.place.size=hashes.size∧t.mask=mask∧t.dummies = #[]∧t.led=led∧t.plain=plain:=by
 obtain⟨o,e,g⟩:=Oo hM hashes.toList _ 0 (Ml mask) (by rw[bb];omega);have hc:layClean mask hashes=some o:=by
  unfold layClean;rw[<- Array.foldl_toList];refine (congrArg (sj (·.1)) e).trans ?_;rfl
 have em:((cf (mask+1)).filterMap fun j=>(o.getD j none).map (j,·)).map (·.2)=vals (mask+1) fun j=>o.getD j none:=by
  rw[List.map_filterMap];unfold vals;refine uD _ fun i _=>?_
  cases o.getD i none <;> rfl
 have gp:(vals (mask+1) fun j=>o.getD j none).Perm (cf hashes.size):=by
  have:=g.2
  rw[ix,bb] at this;exact this
 refine⟨_,_,by unfold laid;rw[hc];rfl,by rw[em];exact gp,?_,rfl,rfl,rfl,rfl⟩;show (((cf (mask+1)).filterMap fun j=>(o.getD j none).map (j,·)).map (·.1)).toArray.size=_;have hl:=congrArg fo em;rw[aR] at hl;rw[a8,aR,hl,gp.length_eq,dj]
end ST
namespace SS
open PySem PyProof.Rows
def byT (w:World):Bool:=w.params.followText "set-order"
def iS:Value->Str
 | .str x _=>x
 | _=>Str.empty
def El (w:World)(e:Int×Value):Prop:=e.1=hashStr w (iS e.2)∧∃ t,e.2 = .str (iS e.2) t
def Els (w:World)(es:List (Int×Value))(ms:List Str):Prop:=(∀ e∈es,El w e)∧(es.map fun e=>iS e.2).Perm ms
theorem Els.perm {w:World}{es es':List (Int×Value)}{ms:List Str}(h:Els w es ms)(p:es'.Perm es):Els w es' ms:=⟨fun e he=>h.1 e (p.mem_iff.mp he),(p.map _).trans h.2⟩
theorem Els.of {w:World}{prog:Program}{es:List (Int×Value)}{ms:List Str}(h:Els w es ms):ElemsOf (e9 prog w) es:=fun e he=>by
 obtain⟨h1,t,h2⟩:=h.1 e he;refine⟨⟨iS e.2,?_,h1⟩,?_⟩
 ·rw[h2]
  exact strKind_is prog w _ t
 ·rw[h2]
  rfl
theorem Els.len {w:World}{es:List (Int×Value)}{ms:List Str}(h:Els w es ms):es.length=ms.length:=by
 have:=h.2.length_eq
 rwa [aR] at this
theorem Els.has {w:World}{prog:Program}{es:List (Int×Value)}{ms:List Str}(h:Els w es ms)(k:Str):k∈ms↔∃ e∈es,(e9 prog w).is k e.2=true:=by
 rw[<- h.2.mem_iff,au];constructor
 ·rintro⟨e,he,rfl⟩
  obtain⟨_,t,h2⟩:=h.1 e he;refine⟨e,he,?_⟩
  conv=>lhs;arg 3;rw[h2]
  exact strKind_is prog w _ t
 ·rintro⟨e,he,hk⟩
  obtain⟨t,ht⟩:=Value.isStrOf_shape hk;exact⟨e,he,by rw[ht];rfl⟩
def Is (w:World)(h:Heap)(a:Addr)(ms:List Str):Prop :=
 ∃ o es ep t,h.get? a=some o∧o.ExactSet∧o.data = .set es ep t∧Els w es.toList ms∧ms.Nodup∧es.size<scanBound∧t.fits es.size=true∧(byT w=true∨t.led=true)∧(es.size=0∨t.plain=false)
theorem Is.at {w:World}{h h':Heap}{a:Addr}{ms:List Str}(x:Is w h a ms)(e:∀ o,h.get? a=some o->h'.get? a=some o):Is w h' a ms:=let ⟨o,es,ep,t,ho,r⟩:=x;⟨o,es,ep,t,e o ho,r⟩
theorem Is.there {w:World}{h:Heap}{a:Addr}{ms:List Str}(x:Is w h a ms):∃ o,h.get? a=some o:=let ⟨o,_,_,_,ho,_⟩:=x;⟨o,ho⟩
theorem tO (t:SetTable)(es:Array (Int×Value))(h:Int)(x:Value):(layNew t es h x).2.1.led=t.led:=by
 unfold layNew;split
 ·rename_i slot wd _
  show ((t.put slot).1.orStandIn _).led=t.led;unfold SetTable.orStandIn;split <;> rfl
 ·rfl
theorem sU {mask finger moves:Nat}{led plain:Bool}{hs:Array Int}{t:SetTable}{o:Array Nat}(h:SetTable.laid mask finger moves led plain hs=some (t,o)):t.led=led∧t.plain=plain:=by
 unfold SetTable.laid at h
 cases hc:SetTable.layClean mask hs with
 | none=>rw[hc] at h;cases h
 | some ow =>
  rw[hc] at h;have h':=ba h;rw[<- (Prod.mk.inj h').1];exact⟨rfl,rfl⟩
theorem rV (t:SetTable)(es:Array (Int×Value))(n:Nat)(hp:t.plain=false):(relayAll t es n).2.1.led=t.led∧(relayAll t es n).2.1.plain=false:=by
 unfold relayAll;split
 ·rename_i t' order e
  obtain⟨h1,h2⟩:=sU e
  dsimp only
  split
  ·exact⟨h1,h2.trans hp⟩
  ·exact⟨rfl,rfl⟩
 ·exact⟨rfl,rfl⟩
section
variable {prog:Program}{w:World}{A:Around}{E:Value->Shared->Prop}{s:Shared}
theorem Is.store (prog:Program){a:Addr}{o:Obj}{es es':Array (Int×Value)}{ep:Nat}{t t':SetTable}{h:Heap}{ms:List Str}(ho:h.get? a=some o)(hex:o.ExactSet)(hd:o.data = .set es ep t)(hel:Els w es'.toList ms)(hnd:ms.Nodup)(hb:es'.size<scanBound)(hf:t'.fits es'.size=true)
  (hl:byT w=true∨t'.led=true) (hp:es'.size=0∨t'.plain=false):(h.update a (Obj.putSet es' t')).get? a=some { o with data:=.set es' (ep+1) t' }∧Is w (h.update a (Obj.putSet es' t')) a ms:=by
 have hg:=(SetOf_store (knd:=e9 prog w) (S':=fun k=>decide (k∈ms)) ho hex hd hel.of (fun k=>by rw[decide_eq_true_iff];exact hel.has k) hb hf).1;exact⟨hg,_,es',ep+1,t',hg,hex,rfl,hel,hnd,hb,hf,hl,hp⟩
theorem yX {a : Addr} {ms : List Str} {k : Str} {tk : Tok} {Q : Bool → Shared → Prop} (hS : Is w s.heap a ms) (hroom : ms.length + 1 < scanBound)
    (h : ∀ h' ms', Heap.SameBut a s.heap h' → Is w h' a ms' → (∀ x, x ∈ ms' ↔ x ∈ ms ∨ x = k) → ms'.length ≤ ms.length + 1 → Q (!decide (k ∈ ms)) { s with heap := h' }) :
    wpAny (model prog w) A (setAddHashed a (.str k tk) (hashStr w k)) Q E s := by
  obtain⟨o, es, ep, t, ho, hex, hd, hel, hnd, hb, hf, hl, hp⟩ := hS;have hn : es.size = ms.length := by rw[← hel.len, bb]
  have hkey : (e9 prog w).is k (.str k tk) = true := strKind_is prog w k tk;unfold setAddHashed setAddHashedIn;refine wpAny_holding (wpAny_bind (wpAny_setState_of ho hd hf ?_))
  dsimp only
  rw[byScan_of (knd := e9 prog w) (x := .str k tk) rfl hb hel.of];simp only [↓reduceIte];unfold setAddByScan;refine wpAny_bind (wpAny_bind (wpAny_rule (wpAny_bind (wpAny_setScan_of (knd := e9 prog w) hkey ho hd hf hel.of ?_))))
  cases hr : tq (fun e => (e9 prog w).is k e.2) es.toList with
  | some j =>
    dsimp only
    obtain⟨hj, hpj, _⟩ := j9.mp hr;have hm : k ∈ ms := (hel.has (prog := prog) k).mpr ⟨es.toList[j], cz hj, hpj⟩;refine wpAny_pure (wpAny_pure ?_);have z := h s.heap ms (Heap.SameBut.refl a s.heap) ⟨o, es, ep, t, ho, hex, hd, hel, hnd, hb, hf, hl, hp⟩ (fun x => ⟨.inl, fun q => q.elim id fun e => e ▸ hm⟩) (by omega);rw[decide_eq_true hm] at z;exact z
  | none =>
    dsimp only
    have hm : ¬ k ∈ ms := fun z => by
      obtain⟨e, he, q⟩ := (hel.has (prog := prog) k).mp z;have := mi.mp hr e he;rw[q] at this;cases this
    have gw : ∀ (b : Bool) {s₁ : Shared} {Q' : Unit → Shared → Prop}, Q' () s₁ → wpAny (model prog w) A (match b with | true => rule "set.scan.the-table-gave-way" | false => pure ()) Q' E s₁ := fun b s₁ Q' hq => by
      cases b
      · exact wpAny_pure hq
      · exact wpAny_rule hq
    have hperm := layNew_perm t es (hashStr w k) (.str k tk);have hfits := layNew_fits t es (hashStr w k) (.str k tk);have hled := tO t es (hashStr w k) (.str k tk);generalize hL : layNew t es (hashStr w k) (.str k tk) = L at hperm hfits hled ⊢;obtain⟨es1, t1, wasDummy, gave⟩ := L
    dsimp only at hperm hfits hled ⊢
    rw[mn] at hperm;have hel1 : Els w es1.toList (ms ++ [k]) := by
      refine Els.perm ⟨fun e he => ?_, ?_⟩ hperm
      · rcases bj.mp he with z | z
        · exact hel.1 e z
        · have e' : e = (hashStr w k, .str k tk) := by simpa using z
          rw[e'];exact⟨rfl, tk, rfl⟩
      · rw[bn]
        exact hel.2.append_right _
    have hnd1 : (ms ++ [k]).Nodup := dw.mpr ⟨hnd, by simp, fun x hx y hy e => hm (by have:y=k:=(by simpa using hy);rw[<- this,<- e];exact hx)⟩
    have hsz1 : es1.size = ms.length + 1 := by rw[← bb, hel1.len, aq, b7]
    have hb1 : es1.size < scanBound := by omega
    have fin : ∀ h', Heap.SameBut a s.heap h' → Is w h' a (ms ++ [k]) → Q true { s with heap := h' } := fun h' sb x => by
      have z := h h' (ms ++ [k]) sb x (fun y => by rw[bj, az]) (by rw[aq, b7]; omega);rw[decide_eq_false hm] at z;exact z
    have tail : ∀ t2 : SetTable, t2.fits es1.size = true → (byT w = true ∨ t2.led = true) → t2.plain = false → wpAny (model prog w) A (do
        storeSet a es1 t2
        if (!wasDummy && t2.tooFull) = true then do
            (match (relayAll t2 es1 (SetTable.grown es1.size)).2.2 with | true => rule "set.scan.the-table-gave-way" | false => pure ())
            storeSet a (relayAll t2 es1 (SetTable.grown es1.size)).1 (relayAll t2 es1 (SetTable.grown es1.size)).2.1
            pure (some true)
          else pure (some true)) (fun r s' => wpAny (model prog w) A (match r with | some added => pure added | none => setAddHashedIn a (.str k tk) (hashStr w k) 99999) Q E s') E s := fun t2 hf2 hl2 hp2 => by
      refine wpAny_bind (wpAny_storeSet_of ho hd ?_ (fits_of_scanBound hb1));obtain⟨ho1, hS1⟩ := Is.store prog ho hex hd hel1 hnd1 hb1 hf2 hl2 (.inr hp2);have sb1 := Heap.SameBut.update s.heap a (Obj.putSet es1 t2);split
      · have q1 := relayAll_perm t2 es1 (SetTable.grown es1.size)
        have q2 := relayAll_fits t2 es1 (SetTable.grown es1.size);have q3 := rV t2 es1 (SetTable.grown es1.size) hp2;generalize relayAll t2 es1 (SetTable.grown es1.size) = Rl at q1 q2 q3 ⊢;obtain⟨es2, t3, g2⟩ := Rl
        dsimp only at q1 q2 q3 ⊢
        have hel2 := hel1.perm q1;have hsz : es2.size = es1.size := by rw[← bb, q1.length_eq, bb]
        have hb2 : es2.size < scanBound := by omega
        refine wpAny_bind (gw _ (wpAny_bind (wpAny_storeSet_of ho1 rfl ?_ (fits_of_scanBound hb2))));obtain⟨_, hS2⟩ := Is.store prog ho1 hex rfl hel2 hnd1 hb2 q2 (hl2.imp id fun z => q3.1.trans z) (.inr q3.2);exact wpAny_pure (wpAny_pure (fin _ (sb1.trans (Heap.SameBut.update _ a _)) hS2))
      · exact wpAny_pure (wpAny_pure (fin _ sb1 hS1))
    refine wpAny_bind (gw _ ?_);have hl1 : byT w = true ∨ t1.led = true := hl.imp id fun z => hled.trans z
    split
    · refine wpAny_bind (wpAny_pure ?_)
      simp only [cm, ↓reduceIte];exact tail { t1 with plain := false } (SetTable.fits_plain_off hfits) hl1 rfl
    · rename_i hpl
      refine wpAny_bind (wpAny_pure ?_);simp only [↓reduceIte];exact tail t1 hfits hl1 (jc.mpr hpl)
end
theorem sW:∀ n,n<=256->ST.vJ (SetTable.sizeAbove n)∧n<SetTable.sizeAbove n:=by
 have key:∀ n,n<257->(SetTable.sizeAbove n=8∨SetTable.sizeAbove n=16∨SetTable.sizeAbove n=32∨SetTable.sizeAbove n=64∨SetTable.sizeAbove n=128∨SetTable.sizeAbove n=256∨SetTable.sizeAbove n=512)∧n<SetTable.sizeAbove n:=by decide +kernel
 exact fun n h=>key n (by omega)
theorem nR {es:Array (Int×Value)}{order:Array Nat}(h:order.toList.Perm (cf es.size)):(order.filterMap (es[·]?)).toList.Perm es.toList:=by
 rw[Array.toList_filterMap];exact (h.filterMap _).trans (by rw[filterMap_getElem?_range])
theorem mP {α:Type}:∀ (l:List α) (i:Nat) (h:i<l.length),(l[i]::l.eraseIdx i).Perm l
 | x::l,0,_=>ik _
 | x::l,i+1,h=>by
  have h':i<l.length:=by simpa using h
  have ih:=mP l i h';exact (sh x (l[i]'h') (l.eraseIdx i)).trans (ih.cons x)
theorem pP {α:Type}(next:Nat->Nat)(xs:Array α):(pickOrder next xs).toList.Perm xs.toList:=by
 have key:∀ (fuel k:Nat) (left:List α) (out:Array α),left.length=fuel->(pickOrder.go next fuel k left out).toList.Perm (out.toList++left):=by
  intro fuel
  induction fuel with
  | zero =>
   intro k left out hl;obtain rfl:=bx.mp hl;rw[pickOrder.go,dv]
  | succ fuel ih =>
   intro k left out hl;have hlt:next k % left.length<left.length:=jf _ (by omega);rw[pickOrder.go,aa hlt]
   dsimp only
   refine (ih _ _ _ (by rw[me hlt];omega)).trans ?_;rw[mn,gf];refine kr _ ?_;exact mP left _ hlt
 have z:=key xs.size 0 xs.toList #[] (bb)
 simpa [pickOrder] using z
section
variable {prog:Program}{w:World}{A:Around}{E:Value->Shared->Prop}{s:Shared}
theorem dP {Q:Bool->Shared->Prop}(h:Q (byT w) s):wpAny (model prog w) A setsByText Q E s:=by
 unfold setsByText;exact wpAny_bind (wpAny_askSetting (wpAny_pure h))
theorem Be {a:Addr}{ms:List Str}{n:Nat}{Q:Unit->Shared->Prop}{o:Obj}{es:Array (Int×Value)}{ep:Nat}{t:SetTable}(ho:s.heap.get? a=some o)(hd:o.data = .set es ep t)(hf:t.fits es.size=true)(hn:n<=256)(hm:es.size<=n)
  (h:∀ (es':Array (Int×Value)) (t':SetTable),es'.toList.Perm es.toList->t'.place.size=es.size->t'.mask+1=SetTable.sizeAbove n->t'.dummies = #[]->t'.led=t.led->t'.plain=t.plain->Q () { s with heap:=s.heap.update a (Obj.putSet es' t') }) :
  wpAny (model prog w) A (setRelay a n) Q E s:=by
 obtain⟨hM,hlt⟩:=sW n hn;have h8:=hM.pos;unfold setRelay;refine wpAny_bind (wpAny_setState_of ho hd hf ?_)
 dsimp only
 have hs:sizeLine=16777216:=sizeLine_eq;have hsl:¬ SetTable.sizeAbove n>sizeLine:=by
  rcases hM with e | e | e | e | e | e | e <;> omega
 rw[if_neg hsl];obtain⟨t',order,e1,e2,e3,e4,e5,e6,e7⟩:=ST.Hr (mask:=SetTable.sizeAbove n-1) (finger:=t.finger) (moves:=t.movedTo (SetTable.sizeAbove n-1)) (led:=t.led) (plain:=t.plain) (hashes:=es.map (·.1)) (by rw[gt (by omega)];exact hM) (by rw[mf];omega);have e1':t.relaid (es.map (·.1)) n=some (t',order):=e1;rw[e1'];rw[mf] at e2 e3;have hp:=nR e2;have hsz:(order.filterMap (es[·]?)).size=es.size:=by rw[<- bb,hp.length_eq,bb]
 refine wpAny_bind (m:=(do
  if ((order.filterMap (es[·]?)).size != es.size)=true then unsupported "internal:set-table-lost-an-element"
  pure (order.filterMap (es[·]?),t'))) ?_
 rw[hsz,bne_self_eq_false,if_neg ak];refine wpAny_pure ?_;exact wpAny_storeSet_of ho hd (h _ _ hp e3 (by rw[e4];omega) e5 e6 e7) (by rw[hsz];omega)
theorem Ll {a b:Addr}{ms ms':List Str}{Q:Bool->Shared->Prop}(h1:Is w s.heap a ms)(h2:Is w s.heap b ms')(h:Q true s):wpAny (model prog w) A (setsQuiet [a,b]) Q E s:=by
 unfold setsQuiet;refine wpAny_bind ?_;refine wpAny_forIn_list _ (fun rest r s'=>r=(none,())∧s'=s∧∀ c∈rest,∃ ks,Is w s.heap c ks) _ ?_ ?_ _ _ ⟨rfl,rfl,fun c hc=>?_⟩
 ·rintro c rest r s' ⟨rfl,rfl,hall⟩
  obtain⟨ks,hc⟩:=hall c (ar ..);obtain⟨o,es,ep,t,ho,hex,hd,hel,hnd,hb,hf,_⟩:=hc;refine wpAny_bind (wpAny_setEntries_of ho hd hf (wpAny_bind ?_));rw[<- qd];refine wpAny_forIn_list _ (fun rest r s2=>r=(none,())∧s2=s'∧∀ e∈rest,El w e) _ ?_ ?_ _ _ ⟨rfl,rfl,hel.1⟩
  ·rintro⟨hh,x⟩ rest2 r s2 ⟨rfl,rfl,hall2⟩
   obtain⟨_,tk,e⟩:=hall2 _ (ar ..)
   dsimp only at e ⊢
   rw[e];exact wpAny_pure ⟨rfl,rfl,fun u hu=>hall2 u (ah _ hu)⟩
  ·rintro r s2 ⟨rfl,rfl,_⟩
   exact wpAny_pure ⟨rfl,rfl,fun u hu=>hall u (ah _ hu)⟩
 ·rintro r s' ⟨rfl,rfl,_⟩
  exact wpAny_pure h
 ·rcases aw.mp hc with rfl | hc
  ·exact⟨ms,h1⟩
  ·rcases aw.mp hc with rfl | hc
   ·exact⟨ms',h2⟩
   ·cases hc
theorem Vj {a b:Addr}{ms1 ms2:List Str}{Q:Array (Int×Value)->Shared->Prop}(h1:Is w s.heap a ms1)(hne:ms1≠[])(h2:Is w s.heap b ms2)(h:∀ es:Array (Int×Value),Els w es.toList ms2->Q es s) :
  wpAny (model prog w) A (setWalkUnseen b [a] (some a)) Q E s:=by
 obtain⟨o,es,ep,t,ho,hex,hd,hel,hnd,hb,hf,hl,hp⟩:=id h2;unfold setWalkUnseen;refine wpAny_bind (wpAny_setState_of ho hd hf ?_)
 dsimp only
 refine wpAny_bind (dP ?_);have walk:∀ Q':Array (Int×Value)->Shared->Prop,(byT w=true∨es.size<=1)->(∀ es':Array (Int×Value),Els w es'.toList ms2->Q' es' s)->wpAny (model prog w) A (setWalk b) Q' E s:=fun Q' hc hQ=>by
  unfold setWalk;refine wpAny_bind (wpAny_setState_of ho hd hf ?_)
  dsimp only
  refine wpAny_bind (dP ?_);by_cases hby:byT w=true
  ·rw[if_pos hby]
   refine wpAny_bind (wpAny_askSetting (wpAny_pure (hQ _ (hel.perm (pP _ _)))))
  ·rw[if_neg hby]
   have h1:es.size<=1:=hc.resolve_left hby;have hdr:(!t.plain&&decide (es.size>1))=false:=by
    rw[decide_eq_false (by omega),jk]
   have hml:(!t.led&&decide (es.size>1))=false:=by
    rw[decide_eq_false (by omega),jk]
   show wpAny _ _ (if (!t.plain&&decide (es.size>1))=true then _ else _) _ _ s;rw[hdr,if_neg ak];refine wpAny_bind (m:=if (!t.led&&decide (es.size>1))=true then unsupported "set:maker-not-led" else pure ()) ?_
   rw[hml,if_neg ak];exact wpAny_pure (wpAny_pure (hQ _ hel))
 by_cases hc:byT w=true∨es.size<=1
 ·have e:(byT w||(t.led&&t.plain)||decide (es.size<=1))=true:=by
   rcases hc with z | z
   ·rw[z];simp
   ·rw[decide_eq_true z];simp
  rw[e,if_pos rfl];exact walk _ hc h
 ·have hby:byT w=false:=jc.mpr fun z=>hc (.inl z)
  have hs1:¬ es.size<=1:=fun z=>hc (.inr z)
  have hpl:t.plain=false:=hp.resolve_left (by omega);have hld:t.led=true:=hl.resolve_left (by rw[hby];exact ak);have e:(byT w||(t.led&&t.plain)||decide (es.size<=1))=false:=by
   rw[hby,hpl,decide_eq_false hs1];simp
  rw[e,if_neg ak];refine wpAny_bind (Ll h2 h1 ?_);simp only [jv,cm,↓reduceIte];refine wpAny_bind (wpAny_rule ?_);obtain⟨o1,es1,ep1,t1,ho1,hex1,hd1,hel1,hnd1,hb1,hf1,hl1,hp1⟩:=id h1;refine wpAny_bind (wpAny_setState_of ho1 hd1 hf1 ?_)
  dsimp only
  have hs0:es1.size≠0:=fun z=>hne (bx.mp (by rw[<- hel1.len,bb];exact z))
  have hpl1:t1.plain=false:=hp1.resolve_left hs0;have hc2:(t1.led && !t.led||t1.plain && !t.plain)=false:=by
   rw[hld,hpl1];simp
  rw[hc2,if_neg ak];exact wpAny_pure (h es hel)
theorem Qj {a:Addr}{ms:List Str}{m:Nat}{Q:Unit->Shared->Prop}(hS:Is w s.heap a ms)(hm:ms.length+m<=128)(h:∀ h',Heap.SameBut a s.heap h'->Is w h' a ms->Q () { s with heap:=h' }):wpAny (model prog w) A (setRoomFor a m) Q E s:=by
 obtain⟨o,es,ep,t,ho,hex,hd,hel,hnd,hb,hf,hl,hp⟩:=id hS;have hn:es.size=ms.length:=by rw[<- hel.len,bb]
 have hpsz:t.place.size=es.size:=by
  simp only [SetTable.fits,cr,beq_iff_eq] at hf;exact hf.1
 unfold setRoomFor;refine wpAny_bind (wpAny_setState_of ho hd hf ?_)
 dsimp only
 unfold SetTable.roomFor;by_cases hc:(t.fill+m)*5≥t.mask*3
 ·rw[if_pos hc]
  refine Be (ms:=ms) ho hd hf (by omega) (by omega) fun es' t' p1 p2 p3 p4 p5 p6=>?_
  have hsz:es'.size=es.size:=by rw[<- bb,p1.length_eq,bb]
  have h8:=(sW ((t.place.size+m)*2) (by omega)).2;have hf':t'.fits es'.size=true:=by
   simp only [SetTable.fits,cr,beq_iff_eq,decide_eq_true_eq,SetTable.fill,p4];exact⟨by omega,by show t'.place.size+0<=t'.mask;omega⟩
  exact h _ (Heap.SameBut.update _ a _) (Is.store prog ho hex hd (hel.perm p1) hnd (by omega) hf' (hl.imp id fun z=>p5.trans z) (hp.imp (fun z=>by omega) fun z=>p6.trans z)).2
 ·rw[if_neg hc]
  exact wpAny_pure (h s.heap (Heap.SameBut.refl a _) hS)
theorem Om {a b:Addr}{ms1 ms2:List Str}{each:Sem Unit}{Q:Unit->Shared->Prop}(hab:a≠b)(h1:Is w s.heap a ms1)(h2:Is w s.heap b ms2)(hne:ms1≠[])(hsz:ms1.length+ms2.length<=128)
  (heach:∀ (s':Shared) (Q':Unit->Shared->Prop),(∀ o,s.heap.get? b=some o->s'.heap.get? b=some o)->Q' () s'->wpAny (model prog w) A each Q' E s')
  (h:∀ h' ms',Heap.SameBut a s.heap h'->Is w h' a ms'->(∀ x,x∈ms'↔x∈ms1∨x∈ms2)->ms'.length<=ms1.length+ms2.length->Q () { s with heap:=h' }):wpAny (model prog w) A (setMerge a b each) Q E s:=by
 obtain⟨o,es,ep,t,ho,hex,hd,hel,hnd,hb,hf,hl,hp⟩:=id h2;have hn:es.size=ms2.length:=by rw[<- hel.len,bb]
 unfold setMerge;rw[if_neg (show ¬ ((a==b)=true) by rw[beq_iff_eq];exact hab)];refine wpAny_bind (wpAny_setState_of ho hd hf ?_)
 dsimp only
 by_cases h0:es.isEmpty=true
 ·rw[if_pos h0]
  have e0:ms2=[]:=bx.mp (by rw[<- hn];simpa using h0);exact wpAny_pure (h s.heap ms1 (Heap.SameBut.refl a _) h1 (fun x=>by rw[e0];simp) (by omega))
 rw[if_neg h0];refine wpAny_bind (Qj h1 (by omega) fun h3 sb3 i3=>?_);have hb3:h3.get? b=some o:=(sb3.2 b (Ne.symm hab)).trans ho;have h2':Is w h3 b ms2:=⟨o,es,ep,t,hb3,hex,hd,hel,hnd,hb,hf,hl,hp⟩;obtain⟨o3,es3,ep3,t3,ho3,hex3,hd3,hel3,hnd3,hb3',hf3,hl3,hp3⟩:=id i3;refine wpAny_bind (wpAny_setState_of (s:={ s with heap:=h3 }) ho3 hd3 hf3 ?_)
 dsimp only
 have hroad:t3.road t = .oneByOne:=by
  unfold SetTable.road;have hp:t3.place.size=es3.size:=by
   simp only [SetTable.fits,cr,beq_iff_eq] at hf3;exact hf3.1
  have hpos:0<es3.size:=by
   rw[<- bb,hel3.len];exact cj.mpr hne
  rw[if_pos];rw[bne_iff_ne];unfold SetTable.fill;omega
 rw[hroad]
 dsimp only
 refine wpAny_bind (Vj (s:={ s with heap:=h3 }) i3 hne h2' fun es4 hel4=>wpAny_bind ?_);rw[<- qd];refine wpAny_forIn_list _ (fun rest _ s'=>∃ dn ms',es4.toList=dn++rest∧s' = { s with heap:=s'.heap }∧Heap.SameBut a s.heap s'.heap∧Is w s'.heap a ms'∧(∀ x,x∈ms'↔x∈ms1∨∃ e∈dn,x=iS e.2)∧ms'.length<=ms1.length+dn.length) _ ?_ ?_ _ _ ⟨[],ms1,rfl,rfl,sb3,i3,fun x=>by simp,by simp⟩
 ·rintro⟨hh,x⟩ rest u s' ⟨dn,ms',e1,e2,sb,i4,hm,hle⟩
  obtain⟨q1,tk,q2⟩:=hel4.1 (hh,x) (by rw[e1];simp)
  dsimp only at q1 q2 ⊢
  have hlen:dn.length+(rest.length+1)=ms2.length:=by
   have:=congrArg fo e1
   rw[hel4.len,aq,a9] at this;omega
  rw[q2,q1];have sb128:scanBound=4096:=rfl;refine wpAny_bind (wpAny_holding (yX (s:=s') i4 (by omega) fun h5 ms5 sb5 i5 hm5 hl5=>?_));have hb5:h5.get? b=some o:=(sb5.2 b (Ne.symm hab)).trans ((sb.2 b (Ne.symm hab)).trans ho);refine wpAny_bind (heach _ _ (fun o' z=>?_) ?_)
  ·rw[ho] at z
   cases z;exact hb5
  ·refine wpAny_bind (wpAny_setState_of (s:={ s' with heap:=h5 }) hb5 hd hf ?_)
   dsimp only
   rw[bne_self_eq_false,if_neg ak];refine wpAny_pure ⟨dn++[(hh,x)],ms5,by rw[e1,gf];rfl,by rw[e2],sb.trans sb5,i5,fun y=>?_,by rw[aq,b7];omega⟩;rw[hm5,hm];constructor
   ·rintro ((z | ⟨e,he,rfl⟩) | rfl)
    ·exact .inl z
    ·exact .inr ⟨e,gc _ he,rfl⟩
    ·exact .inr ⟨(hh,x),by simp,rfl⟩
   ·rintro (z | ⟨e,he,rfl⟩)
    ·exact .inl (.inl z)
    ·rcases bj.mp he with z | z
     ·exact .inl (.inr ⟨e,z,rfl⟩)
     ·have:e=(hh,x):=by simpa using z
      subst this;exact .inr rfl
 ·rintro u s' ⟨dn,ms',e1,e2,sb,i4,hm,hle⟩
  rw[dv] at e1;rw[e2];refine wpAny_pure (h _ ms' sb i4 (fun x=>?_) ?_)
  ·rw[hm,<- e1,<- hel4.2.mem_iff,au]
   exact or_congr Iff.rfl ⟨fun ⟨e,he,z⟩=>⟨e,he,z.symm⟩,fun ⟨e,he,z⟩=>⟨e,he,z.symm⟩⟩
  ·have:=congrArg fo e1
   rw[hel4.len] at this;omega
def bV (w:World):Obj:={ cls:=.type "set",dict:=none,data:=.set #[] 0 (.fresh 0 0 (!byT w)) }
theorem Sc {Q:Value->Shared->Prop}(h:Q (.ref s.heap.objs.size) { s with heap:=s.heap.push (bV w) }):wpAny (model prog w) A (newSet (.type "set")) Q E s:=by
 unfold newSet;refine wpAny_bind (dP ?_)
 dsimp only
 simp only [newObj];exact wpAny_bind (wpAny_alloc (wpAny_pure h))
theorem Is.fresh (h:Heap):Is w (h.push (bV w)) h.objs.size []:=by
 refine⟨bV w,#[],0,.fresh 0 0 (!byT w),Heap.get?_push_size _ rfl,⟨rfl,rfl,rfl⟩,rfl,⟨fun e he=>by simp at he,by simp⟩,gu,by decide,rfl,?_,.inl rfl⟩;cases byT w
 ·exact .inr rfl
 ·exact .inl rfl
theorem Oe {a:Addr}{n:Nat}{Q:Unit->Shared->Prop}(ho1:s.heap.get? a=some (bV w))(hn:n<=128)
  (h:∀ (h3:Heap) (o3:Obj) (ep3:Nat) (t3:SetTable),Heap.SameBut a s.heap h3->h3.get? a=some o3->o3.ExactSet->o3.data = .set #[] ep3 t3->t3.place.size=0->t3.dummies = #[]->ST.vJ (t3.mask+1)->n<=t3.mask->(byT w=true∨t3.led=true)->Q () { s with heap:=h3 }) :
  wpAny (model prog w) A (setRoomFor a n) Q E s:=by
 have hled:byT w=true∨(!byT w)=true:=by cases byT w <;> simp
 unfold setRoomFor;refine wpAny_bind (wpAny_setState_of ho1 rfl rfl ?_)
 dsimp only
 unfold SetTable.roomFor;by_cases hc:((SetTable.fresh 0 0 (!byT w)).fill+n)*5≥(SetTable.fresh 0 0 (!byT w)).mask*3
 ·rw[if_pos hc]
  refine Be (ms:=[]) ho1 rfl rfl (by show (0+n)*2<=256;omega) (b8 _) fun es' t' p1 p2 p3 p4 p5 p6=>?_
  obtain rfl:es' = #[]:=by
   have:=p1.length_eq
   rw[bb] at this;exact k9 this
  obtain⟨hM,hlt⟩:=sW ((0+n)*2) (by omega);have p3':t'.mask+1=SetTable.sizeAbove ((0+n)*2):=p3;have hg:(s.heap.update a (Obj.putSet #[] t')).get? a=some { bV w with data:=.set #[] (0+1) t' }:=by
   have:=Heap.get?_update_self (Obj.putSet #[] t') ho1 (by rw[putSet_of (o:=bV w) #[] t' rfl];rfl)
   rw[putSet_of (o:=bV w) #[] t' rfl] at this;exact this
  exact h _ _ 1 t' (Heap.SameBut.update _ a _) hg ⟨rfl,rfl,rfl⟩ rfl p2 p4 (by rw[p3'];exact hM) (by omega) (hled.imp id fun z=>p5.trans z)
 ·rw[if_neg hc]
  have hc':¬ (0+n)*5≥7*3:=hc;exact wpAny_pure (h s.heap (bV w) 0 _ (Heap.SameBut.refl a _) ho1 ⟨rfl,rfl,rfl⟩ rfl rfl rfl (.inl rfl) (by show n<=7;omega) hled)
theorem Kb {a b:Addr}{ms:List Str}{Q:Unit->Shared->Prop}(hab:a≠b)(ho1:s.heap.get? a=some (bV w))(h2:Is w s.heap b ms)(hsz:ms.length<=128)
  (h:∀ h',Heap.SameBut a s.heap h'->Is w h' a ms->Q () { s with heap:=h' }):wpAny (model prog w) A (setMerge a b) Q E s:=by
 obtain⟨o,es,ep,t,ho,hex,hd,hel,hnd,hb,hf,hl,hp⟩:=id h2;have hn:es.size=ms.length:=by rw[<- hel.len,bb]
 have hled:byT w=true∨(!byT w)=true:=by cases byT w <;> simp
 unfold setMerge;rw[if_neg (show ¬ ((a==b)=true) by rw[beq_iff_eq];exact hab)];refine wpAny_bind (wpAny_setState_of ho hd hf ?_)
 dsimp only
 by_cases h0:es.isEmpty=true
 ·rw[if_pos h0]
  have e0:ms=[]:=bx.mp (by rw[<- hn];simpa using h0);subst e0;exact wpAny_pure (h s.heap (Heap.SameBut.refl a _) ⟨bV w,#[],0,.fresh 0 0 (!byT w),ho1,⟨rfl,rfl,rfl⟩,rfl,⟨fun e he=>by simp at he,by simp⟩,gu,by decide,rfl,hled,.inl rfl⟩)
 rw[if_neg h0];have hpos:0<es.size:=by
  rcases qe es.size with z | z
  ·exact absurd (by simpa using z) h0
  ·exact z
 have hpl:t.plain=false:=hp.resolve_left (by omega);refine wpAny_bind (Oe ho1 (by omega) fun h3 o3 ep3 t3 sb3 ho3 hex3 hd3 hps hdu hM hle hld3=>?_);have hf3:t3.fits (#[]:Array (Int×Value)).size=true:=by
  simp only [SetTable.fits,cr,beq_iff_eq,decide_eq_true_eq,SetTable.fill,hdu];exact⟨hps,by show t3.place.size+0<=t3.mask;omega⟩
 refine wpAny_bind (wpAny_setState_of (s:={ s with heap:=h3 }) ho3 hd3 hf3 ?_)
 dsimp only
 have hled3:byT w=true∨(t3.led&&t.led)=true:=by
  rcases hld3 with z | z
  ·exact .inl z
  ·rcases hl with y | y
   ·exact .inl y
   ·exact .inr (by rw[z,y];rfl)
 have hfill:(t3.fill != 0)=false:=by
  unfold SetTable.fill;rw[hps,hdu];rfl
 unfold SetTable.road;rw[hfill,if_neg ak];by_cases hm:(t3.mask==t.mask&&t.dummies.isEmpty)=true
 ·rw[if_pos hm]
  dsimp only
  refine wpAny_storeSet_of (s:={ s with heap:=h3 }) ho3 hd3 ?_ (fits_of_scanBound hb);exact h _ (sb3.trans (Heap.SameBut.update _ a _)) (Is.store prog (t':={ mask:=t.mask,place:=t.place,dummies:=t.dummies,finger:=t3.finger,led:=t3.led&&t.led,moves:=t3.moves,plain:=t3.plain&&t.plain }) ho3 hex3 hd3 hel hnd hb hf hled3 (.inr (by show (t3.plain&&t.plain)=false;rw[hpl,jk]))).2
 ·rw[if_neg hm]
  dsimp only
  obtain⟨t',order,e1,e2,e3,e4,e5,e6,e7⟩:=ST.Hr (finger:=t3.finger) (moves:=t3.moves) (led:=t3.led&&t.led) (plain:=t3.plain&&t.plain) (hashes:=es.map (·.1)) hM (by rw[mf];exact hle);rw[e1];rw[mf] at e2 e3;have hpm:=nR e2;have hsz':(order.filterMap (es[·]?)).size=es.size:=by rw[<- bb,hpm.length_eq,bb]
  refine wpAny_bind (m:=(do
   if ((order.filterMap (es[·]?)).size != es.size)=true then unsupported "internal:set-table-lost-an-element"
   pure (order.filterMap (es[·]?),t'))) ?_
  rw[hsz',bne_self_eq_false,if_neg ak];refine wpAny_pure ?_;refine wpAny_storeSet_of (s:={ s with heap:=h3 }) ho3 hd3 ?_ (by rw[hsz'];exact fits_of_scanBound hb);have hf':t'.fits (order.filterMap (es[·]?)).size=true:=by
   simp only [SetTable.fits,cr,beq_iff_eq,decide_eq_true_eq,SetTable.fill,e5];exact⟨by omega,by show t'.place.size+0<=t'.mask;omega⟩
  exact h _ (sb3.trans (Heap.SameBut.update _ a _)) (Is.store prog ho3 hex3 hd3 (hel.perm hpm) hnd (by rw[hsz'];exact hb) hf' (by rw[e6];exact hled3) (.inr (by rw[e7,hpl,jk]))).2
theorem Is.ty {a:Addr}{ms:List Str}(x:Is w s.heap a ms):s.TypeIs (.ref a) "set" := by
 obtain⟨o,_,_,_,ho,hex,_⟩:=x;exact⟨o,ho,hex.1⟩
theorem Pb {b:Addr}{ms:List Str}{Q:Value->Shared->Prop}(h2:Is w s.heap b ms)(hsz:ms.length<=128)
  (h:∀ h',(∀ x o,s.heap.get? x=some o->h'.get? x=some o)->Is w h' s.heap.objs.size ms->Q (.ref s.heap.objs.size) { s with heap:=h' }):wpAny (model prog w) A (Builtin.Frozenset.copyOf b) Q E s:=by
 unfold Builtin.Frozenset.copyOf Builtin.Frozenset.baseOf;refine wpAny_bind (wpAny_bind (wpAny_isInstance h2.ty sub_set_self (wpAny_pure ?_)));rw[if_pos rfl];refine wpAny_bind (Sc ?_);refine wpAny_bind (m:=Builtin.Frozenset.addrOf (.ref s.heap.objs.size)) (wpAny_pure ?_);obtain⟨o,ho⟩:=h2.there;have hlt:=Heap.lt_size ho;refine wpAny_bind (Kb (s:={ s with heap:=s.heap.push (bV w) }) (fh hlt) (Heap.get?_push_size _ rfl) (h2.at fun o e=>Heap.get?_push_of_some _ e) hsz fun h' sb i=>wpAny_pure ?_);exact h h' (fun x o e=>(sb.2 x (a7 (Heap.lt_size e))).trans (Heap.get?_push_of_some _ e)) i
theorem Mq:entryFor table "set.__or__" = some Builtin.«frozenset.__or__» :=
 entryFor_alias (id' := "frozenset.__or__") (by kernel_rfl) (by first | rfl | decide +kernel | (unfold String.splitOn;simp +decide [String.splitOnAux])) (by decide +kernel) (by kernel_rfl)
theorem Wb {a b:Addr}{ms1 ms2:List Str}{Q:Value->Shared->Prop}(hab:a≠b)(h1:Is w s.heap a ms1)(h2:Is w s.heap b ms2)(hne:ms1≠[])(hsz:ms1.length+ms2.length<=128)
  (h:∀ h' ms',(∀ x o,s.heap.get? x=some o->h'.get? x=some o)->Is w h' s.heap.objs.size ms'->(∀ x,x∈ms'↔x∈ms1∨x∈ms2)->ms'.length<=ms1.length+ms2.length->Q (.ref s.heap.objs.size) { s with heap:=h' }) :
  wpAny (model prog w) A (binaryOp .BitOr (.ref a) (.ref b)) Q E s:=by
 refine wpAny_binaryOp_same h1.ty h2.ty F.fills_set_or F.slot_set_or (wpAny_call_entry F.slot_set_or h1.ty Mq ?_ (F.args_set_or_2 _ _));refine wpAny_bind (m:=Builtin.Frozenset.slot1 "__or__" ⟨[.ref a,.ref b],[]⟩) (wpAny_pure (a:=(Value.ref a,Value.ref b)) ?_)
 dsimp only
 simp only [cm,↓reduceIte];have any:∀ (c:Addr) (ms:List Str) (A':Around) (s':Shared) (Q':Bool->Shared->Prop),Is w s'.heap c ms->Q' true s'->wpAny (model prog w) A' (Builtin.Frozenset.isAnySet (.ref c)) Q' E s':=fun c ms A' s' Q' hc hQ=>by
  unfold Builtin.Frozenset.isAnySet;refine wpAny_bind (m:=isInstance (.ref c) (.type "set")) (wpAny_isInstance hc.ty sub_set_self ?_)
  exact wpAny_pure hQ
 refine wpAny_bind (m:=Builtin.Frozenset.isAnySet (.ref a) <&&> Builtin.Frozenset.isAnySet (.ref b)) ?_;refine wpAny_bind (m:=Builtin.Frozenset.isAnySet (.ref a)) (any a ms1 _ s _ h1 ?_);refine any b ms2 _ s _ h2 ?_;simp only [jv,cm,↓reduceIte];refine wpAny_bind (m:=Builtin.Frozenset.addrOf (.ref a)) (wpAny_pure ?_);refine wpAny_bind ?_;refine wpAny_bind (m:=Builtin.Frozenset.copyOf a) (Pb h1 (by omega) fun h3 kp3 i3=>?_);have hb:(Value.ref b != Value.ref a)=true:=by
  rw[bne_iff_ne];exact fun z=>hab (by cases z;rfl)
 have hlt:=Heap.lt_size h2.there.choose_spec;have h2':Is w h3 b ms2:=h2.at fun o e=>kp3 b o e
 have nb:s.heap.objs.size≠b:=fh hlt;rw[hb,if_pos rfl];refine wpAny_bind (m:=holding [.ref s.heap.objs.size] (do Builtin.Frozenset.updateFrom _ (<- Builtin.Frozenset.addrOf (.ref s.heap.objs.size)) (.ref b))) (wpAny_holding ?_);refine wpAny_bind (m:=Builtin.Frozenset.addrOf (.ref s.heap.objs.size)) (wpAny_pure ?_);unfold Builtin.Frozenset.updateFrom;refine wpAny_bind (m:=Builtin.Frozenset.isAnySet (.ref b)) (any b ms2 _ { s with heap:=h3 } _ h2' ?_);rw[if_pos rfl];refine wpAny_bind (m:=Builtin.Frozenset.addrOf (.ref b)) (wpAny_pure ?_);unfold Builtin.Frozenset.merge;obtain⟨o,es,ep,t,ho,hex,hd,hel,hnd,hbs,hf,hl,hp⟩:=id h2';refine wpAny_bind (wpAny_setEpoch_of (s:={ s with heap:=h3 }) ho hd hf ?_);refine Om (s:={ s with heap:=h3 }) nb i3 h2' hne hsz (fun s' Q' keep hQ=>?_) fun h4 ms' sb4 i4 hm hle=>?_
 ·unfold Builtin.Frozenset.unchanged
  refine wpAny_bind (wpAny_setEpoch_of (s:=s') (keep o ho) hd hf ?_);rw[bne_self_eq_false,if_neg ak];exact wpAny_pure hQ
 ·refine wpAny_pure (wpAny_pure ⟨_,rfl,(by intro z;cases z),h h4 ms' (fun x o' e=>(sb4.2 x (a7 (Heap.lt_size e))).trans (kp3 x o' e)) i4 hm hle⟩)
end
theorem cR:Slot "set_iterator" "__next__" "set_iterator.__next__" :=
 .of (owner := "set_iterator") (n := "__next__") (by rw[typeLookup_type,builtinLookup_eq_fast];kernel_rfl) (by decide +kernel) (by decide +kernel) (by decide +kernel) (by first | exact .inl (by decide +kernel) | exact .inr (by decide +kernel)) (by rw[isSubtype_type];kernel_rfl)
theorem jV:entryFor table "set_iterator.__next__" = some Builtin.«set_iterator.__next__» := entryFor_of_tree (by kernel_rfl)
theorem lL (a:Value):argsOk "set_iterator.__next__" ⟨[a],[]⟩:=by unfold argsOk;kernel_rfl
theorem vX:Slot "set_iterator" "__iter__" "set_iterator.__iter__" :=
 .of (owner := "set_iterator") (n := "__iter__") (by rw[typeLookup_type,builtinLookup_eq_fast];kernel_rfl) (by decide +kernel) (by decide +kernel) (by decide +kernel) (by first | exact .inl (by decide +kernel) | exact .inr (by decide +kernel)) (by rw[isSubtype_type];kernel_rfl)
theorem Kd (a:Value):argsOk "set_iterator.__iter__" ⟨[a],[]⟩:=by unfold argsOk;kernel_rfl
theorem Ev:entryFor table "set_iterator.__iter__" = some Builtin.«dict_keyiterator.__iter__» :=
 entryFor_alias (id' := "dict_keyiterator.__iter__") (by kernel_rfl) (by first | rfl | decide +kernel | (unfold String.splitOn;simp +decide [String.splitOnAux])) (by decide +kernel) (by kernel_rfl)
theorem sR:entryFor table "set.__iter__" = some Builtin.«frozenset.__iter__» :=
 entryFor_alias (id' := "frozenset.__iter__") (by kernel_rfl) (by first | rfl | decide +kernel | (unfold String.splitOn;simp +decide [String.splitOnAux])) (by decide +kernel) (by kernel_rfl)
def It (h:Heap)(I a:Addr)(first:Value)(i n ep:Nat):Prop:=∃ o,h.get? I=some o∧o.cls = .type "set_iterator" ∧ o.data = .fields #[first,rawInt (i:Int),.ref a,rawInt (n:Int),rawInt (ep:Int)]
theorem It.at {h h':Heap}{I a:Addr}{first:Value}{i n ep:Nat}(x:It h I a first i n ep)(e:∀ o,h.get? I=some o->h'.get? I=some o):It h' I a first i n ep:=let ⟨o,ho,r⟩:=x;⟨o,e _ ho,r⟩
section
variable {prog:Program}{w:World}{A:Around}{E:Value->Shared->Prop}{s:Shared}
theorem It.ty {I a:Addr}{first:Value}{i n ep:Nat}(x:It s.heap I a first i n ep):s.TypeIs (.ref I) "set_iterator" := let ⟨o,ho,hc,_⟩:=x;⟨o,ho,hc⟩
theorem Fp {α:Type}{I:Addr}{s0 s:Shared}{Q:Option Value->Shared->Prop}(hh:A.handled=none)(hQ:∀ h',(∀ b o,s.heap.get? b=some o->h'.get? b=some o)->Q none { s with heap:=h' }) :
  wpAny (model prog w) A.in1 (newExc (.type "StopIteration") [] >>= fun e=>(raiseNew e:Sem Fin)) (fun fin s'=>∃ v,fin = .done (.ret v)∧wpAny (model prog w) A (pure (some v)) Q E s')
   (fun e s'=>wpAny (model prog w) A (do if <- isInstance e (.type "StopIteration") then pure none else throw e) Q E s') s:=by
 refine wpAny_bind ?_;simp only [newExc,newTuple];refine wpAny_bind (wpAny_newObj_type ?_ (by size_fits));refine wpAny_bind (m:=firstArgMember _ _) (wpAny_of_eq (a:=Value.none) (by first | rfl | (simp only [firstArgMember];rfl)) ?_);refine wpAny_newObj_type ?_ (by size_fits);simp only [raiseNew];refine wpAny_bind (wpAny_handled ?_)
 first | rw[show A.in1.handled=none from hh] | rw[hh]
 refine wpAny_bind (wpAny_pure (wpAny_throw ?_));refine wpAny_bind (wpAny_isInstance (T := "StopIteration") (b:=true) ⟨_,Heap.get?_push_size _ rfl,rfl⟩ isSubtype_stop ?_)
 refine wpAny_pure (hQ _ fun b ob eb=>?_);exact Heap.get?_push_of_some _ (Heap.get?_push_of_some _ eb)
theorem Nu {I a:Addr}{o:Obj}{es:Array (Int×Value)}{ep i slot nx:Nat}{t:SetTable}{x:Value}{Q:Option Value->Shared->Prop}(hI:It s.heap I a (rawInt (slot:Int)) i es.size ep)(hne:a≠I)(ho:s.heap.get? a=some o)(hd:o.data = .set es ep t)(hf:t.fits es.size=true)
  (hN:∀ (A':Around) (E':Value->Shared->Prop) (Q':Option (Value×Nat)->Shared->Prop),Q' (some (x,nx)) s->wpAny (model prog w) A' (setNext a slot i ep) Q' E' s)
  (hQ:∀ h',It h' I a (rawInt (nx:Int)) (i+1) es.size ep->Heap.SameBut I s.heap h'->Q (some x) { s with heap:=h' }):wpAny (model prog w) A (pyNext (.ref I)) Q E s:=by
 obtain⟨oi,hoi,hci,hdi⟩:=id hI;unfold pyNext;refine wpAny_bind (wpAny_attempt (wpAny_callSpecial?_slot (name:=Str.ofString "__next__") hI.ty cR (wpAny_call_entry cR hI.ty jV ?_ (lL _))))
 unfold Builtin.«set_iterator.__next__»;refine wpAny_bind (wpAny_of_eq (a:=(Value.ref I,[])) rfl ?_)
 try dsimp only
 refine wpAny_bind (wpAny_fieldsOf hoi hdi ?_)
 dsimp only [rawInt]
 refine wpAny_bind (wpAny_setEntries_of ho hd hf ?_);rw[if_neg (by simp)];refine wpAny_bind (m:=setNext a (slot:Int).toNat (i:Int).toNat (ep:Int).toNat) ?_;rw[c8,c8,c8];refine hN _ _ _ ?_
 dsimp only
 refine wpAny_bind (wpAny_setField hoi hdi (by simp) ?_);have h2:=Heap.get?_update_self (Obj.mapFields (·.setIfInBounds 0 (rawInt (nx:Int)))) hoi (Obj.isFreed_of_fields (Obj.data_mapFields hdi _));refine wpAny_bind (wpAny_setField h2 (Obj.data_mapFields hdi _) (by simp) ?_);refine wpAny_pure ⟨_,rfl,wpAny_pure (hQ _ ?_ ((Heap.SameBut.update ..).trans (Heap.SameBut.update ..)))⟩;exact⟨_,Heap.get?_update_self _ h2 (Obj.isFreed_of_fields (Obj.data_mapFields (Obj.data_mapFields hdi _) _)),(Obj.cls_mapFields ..).trans ((Obj.cls_mapFields ..).trans hci),by rw[Obj.data_mapFields (Obj.data_mapFields hdi _)];simp[rawInt]⟩
theorem Ql {I a:Addr}{o:Obj}{es:Array (Int×Value)}{ep i slot:Nat}{t:SetTable}{Q:Option Value->Shared->Prop}(hh:A.handled=none)(hI:It s.heap I a (rawInt (slot:Int)) i es.size ep)(hne:a≠I)(ho:s.heap.get? a=some o)(hd:o.data = .set es ep t)(hf:t.fits es.size=true)
  (hN:∀ (A':Around) (E':Value->Shared->Prop) (Q':Option (Value×Nat)->Shared->Prop),Q' none s->wpAny (model prog w) A' (setNext a slot i ep) Q' E' s)
  (hQ:∀ h',Heap.ExtBut I s.heap h'->Q none { s with heap:=h' }):wpAny (model prog w) A (pyNext (.ref I)) Q E s:=by
 obtain⟨oi,hoi,hci,hdi⟩:=id hI;unfold pyNext;refine wpAny_bind (wpAny_attempt (wpAny_callSpecial?_slot (name:=Str.ofString "__next__") hI.ty cR (wpAny_call_entry cR hI.ty jV ?_ (lL _))))
 unfold Builtin.«set_iterator.__next__»;refine wpAny_bind (wpAny_of_eq (a:=(Value.ref I,[])) rfl ?_)
 try dsimp only
 refine wpAny_bind (wpAny_fieldsOf hoi hdi ?_)
 dsimp only [rawInt]
 refine wpAny_bind (wpAny_setEntries_of ho hd hf ?_);rw[if_neg (by simp)];refine wpAny_bind (m:=setNext a (slot:Int).toNat (i:Int).toNat (ep:Int).toNat) ?_;rw[c8,c8,c8];refine hN _ _ _ ?_
 dsimp only
 refine wpAny_bind (wpAny_setField hoi hdi (by simp) ?_);refine wpAny_mono (Fp (α:=Unit) (I:=I) (s0:=s) (Q:=Q) (E:=E) hh fun h' kp=>hQ h' fun b ob hb eb=>kp b ob ((Heap.get?_update_other _ _ (Ne.symm hb)).trans eb)) (fun fin s' z=>z) fun e s' z=>z
theorem La {I a tp:Addr}{o ot:Obj}{es:Array (Int×Value)}{ep i p nt:Nat}{t:SetTable}{x:Int×Value}{ps:List Nat}{Q:Option Value->Shared->Prop}(hI:It s.heap I a (.ref tp) i es.size ep)(ho:s.heap.get? a=some o)(hd:o.data = .set es ep t)(hf:t.fits es.size=true)
  (hot:s.heap.get? tp=some ot) (hdt:ot.data = .seq (ps.map fun j:Nat=>rawInt (j:Int)).toArray nt) (hp:ps[i]?=some p) (hx:es[p]?=some x)
  (hQ:∀ h',It h' I a (.ref tp) (i+1) es.size ep->Heap.SameBut I s.heap h'->Q (some x.2) { s with heap:=h' }):wpAny (model prog w) A (pyNext (.ref I)) Q E s:=by
 obtain⟨oi,hoi,hci,hdi⟩:=id hI;unfold pyNext;refine wpAny_bind (wpAny_attempt (wpAny_callSpecial?_slot (name:=Str.ofString "__next__") hI.ty cR (wpAny_call_entry cR hI.ty jV ?_ (lL _))))
 unfold Builtin.«set_iterator.__next__»;refine wpAny_bind (wpAny_of_eq (a:=(Value.ref I,[])) rfl ?_)
 try dsimp only
 refine wpAny_bind (wpAny_fieldsOf hoi hdi ?_)
 dsimp only [rawInt]
 refine wpAny_bind (wpAny_setEntries_of ho hd hf ?_);rw[if_neg (by simp)];refine wpAny_bind (wpAny_seqItems hot hdt ?_)
 dsimp only
 rw[c8,i7,al,hp]
 dsimp only [sj,rawInt]
 refine wpAny_bind (m:=setNextDrawn a (p:Int).toNat (ep:Int).toNat) ?_;rw[c8,c8];unfold setNextDrawn;refine wpAny_bind (wpAny_setState_of ho hd hf ?_)
 dsimp only
 rw[bne_self_eq_false,if_neg ak,hx];refine wpAny_pure ?_;refine wpAny_bind (wpAny_setField hoi hdi (by simp) ?_);refine wpAny_pure ⟨_,rfl,wpAny_pure (hQ _ ?_ (Heap.SameBut.update ..))⟩;exact⟨_,Heap.get?_update_self _ hoi (Obj.isFreed_of_fields (Obj.data_mapFields hdi _)),(Obj.cls_mapFields ..).trans hci,by rw[Obj.data_mapFields hdi];simp[rawInt]⟩
theorem Ow {I a tp:Addr}{o ot:Obj}{es:Array (Int×Value)}{ep i nt:Nat}{t:SetTable}{ps:List Nat}{Q:Option Value->Shared->Prop}(hh:A.handled=none)(hI:It s.heap I a (.ref tp) i es.size ep)(ho:s.heap.get? a=some o)(hd:o.data = .set es ep t)(hf:t.fits es.size=true)
  (hot:s.heap.get? tp=some ot) (hdt:ot.data = .seq (ps.map fun j:Nat=>rawInt (j:Int)).toArray nt) (hp:ps[i]?=none)
  (hQ:∀ h',Heap.ExtBut I s.heap h'->Q none { s with heap:=h' }):wpAny (model prog w) A (pyNext (.ref I)) Q E s:=by
 obtain⟨oi,hoi,hci,hdi⟩:=id hI;unfold pyNext;refine wpAny_bind (wpAny_attempt (wpAny_callSpecial?_slot (name:=Str.ofString "__next__") hI.ty cR (wpAny_call_entry cR hI.ty jV ?_ (lL _))))
 unfold Builtin.«set_iterator.__next__»;refine wpAny_bind (wpAny_of_eq (a:=(Value.ref I,[])) rfl ?_)
 try dsimp only
 refine wpAny_bind (wpAny_fieldsOf hoi hdi ?_)
 dsimp only [rawInt]
 refine wpAny_bind (wpAny_setEntries_of ho hd hf ?_);rw[if_neg (by simp)];refine wpAny_bind (wpAny_seqItems hot hdt ?_)
 dsimp only
 rw[c8,i7,al,hp]
 dsimp only [sj]
 refine wpAny_bind (wpAny_setField hoi hdi (by simp) ?_);have h2:=Heap.get?_update_self (Obj.mapFields (·.setIfInBounds 0 (rawInt 0))) hoi (Obj.isFreed_of_fields (Obj.data_mapFields hdi _));refine wpAny_bind (wpAny_setField h2 (Obj.data_mapFields hdi _) (by simp) ?_);refine wpAny_mono (Fp (α:=Unit) (I:=I) (s0:=s) (Q:=Q) (E:=E) hh fun h' kp=>hQ h' fun b ob hb eb=>kp b ob ((Heap.get?_update_other _ _ (Ne.symm hb)).trans ((Heap.get?_update_other _ _ (Ne.symm hb)).trans eb))) (fun fin s' z=>z) fun e s' z=>z
theorem Fs {I a:Addr}{first:Value}{i n ep:Nat}{Q:Value->Shared->Prop}(hI:It s.heap I a first i n ep)(h:Q (.ref I) s):wpAny (model prog w) A (pyIter (.ref I)) Q E s:=by
 refine wpAny_pyIter_slot hI.ty vX (wpAny_call_entry vX hI.ty Ev ?_ (Kd _));show wpAny _ _ (ret (.ref I)) _ _ s;exact wpAny_pure ⟨_,rfl, "set_iterator",_,hI.ty,cR.lookup,h⟩
theorem xY {M:Model}{src:Source}{n:Nat}{Q:Nat->Shared->Prop}(hn:n≠0)(h:∀ i d,i<n->Q i { s with drawn:=d }):wpAny M A (choose src n) Q E s:=fun Γ p hΓ=>⟨hn,h _ _ (jf _ (j3 hn))⟩
theorem Gk {α:Type}:∀ (xs:List α) (s:Shared) (Q:List α->Shared->Prop),(∀ ys d,ys.Perm xs->Q ys { s with drawn:=d })->wpAny (model prog w) A (drawOrder xs.length xs) Q E s:=by
 intro xs;generalize hn:xs.length=n
 induction n generalizing xs with
 | zero =>
  intro s Q h;obtain rfl:=bx.mp hn;rw[drawOrder];exact wpAny_pure (h [] s.drawn (ik _))
 | succ n ih =>
  intro s Q h
  cases xs with
  | nil=>cases hn
  | cons x xs =>
   rw[drawOrder]
   rotate_left
   ·intro z
    cases z
   refine wpAny_bind (xY (by simp) fun i d hi=>?_);rw[aa hi]
   dsimp only
   refine wpAny_bind (ih ((x::xs).eraseIdx i) (by rw[me hi,hn];rfl) _ _ fun ys d2 hp=>wpAny_pure ?_);exact h _ d2 ((hp.cons _).trans (mP _ i hi))
end
theorem Ce {prog:Program}{w:World}{A:Around}{a I:Addr}{o:Obj}{es:Array (Int×Value)}{ep:Nat}{t:SetTable}{L:List (Int×Value)}{slots:Nat->Nat}(hh:A.handled=none)(hne:a≠I)(hd:o.data = .set es ep t)(hf:t.fits es.size=true)
  (hN:∀ (i:Nat) (s:Shared) (A':Around) (E':Value->Shared->Prop) (Q':Option (Value×Nat)->Shared->Prop),s.heap.get? a=some o->i<=L.length->Q' ((L[i]?).map fun e=>(e.2,slots (i+1))) s->wpAny (model prog w) A' (setNext a (slots i) i ep) Q' E' s) :
  Walks prog w A I [I,a] [I] L.length (fun i v=>(L.map (·.2))[i]?=some v) (fun i h=>h.get? a=some o∧It h I a (rawInt (slots i:Int)) i es.size ep) where
 sub:=fun b hb=>by simp at hb;simp[hb]
 frame:=fun _ _ _ y hk=>⟨hk a (by simp) o y.1,y.2.at fun o e=>hk I (by simp) o e⟩
 item:=fun i s Q E hi y hQ=>by
  refine Nu (x:=L[i].2) (nx:=slots (i+1)) y.2 hne y.1 hd hf (fun A' E' Q' q=>hN i s A' E' Q' y.1 (by omega) ?_) fun h' hit hs=>?_
  ·rw[aa hi]
   exact q
  ·exact hQ _ h' s.toks (by rw[al,aa hi];rfl) ⟨(hs.2 a hne).trans y.1,hit⟩ fun b o hb eo=>hs.extBut b o (fun h=>hb (by simp[h])) eo
 done:=fun s Q E y hQ=>by
  refine Ql hh y.2 hne y.1 hd hf (fun A' E' Q' q=>hN L.length s A' E' Q' y.1 (af _) ?_) fun h' he=>hQ h' s.toks fun b o hb eo=>he b o (fun h=>hb (by simp[h])) eo
  rw[cp (af _)];exact q
 self:=fun _ _ _ _ y hQ=>Fs y.2 hQ
theorem Ae {prog:Program}{w:World}{A:Around}{a I tp:Addr}{o ot:Obj}{es:Array (Int×Value)}{ep nt:Nat}{t:SetTable}{ps:List Nat}(hh:A.handled=none)(hne:a≠I)(hnt:tp≠I)(hd:o.data = .set es ep t)(hf:t.fits es.size=true)
  (hdt:ot.data = .seq (ps.map fun j:Nat=>rawInt (j:Int)).toArray nt) (hps:∀ p∈ps,p<es.size) :
  Walks prog w A I [I,a,tp] [I] ps.length (fun i v=>(ps.map fun p=>(es.getD p (0,.none)).2)[i]?=some v) (fun i h=>h.get? a=some o∧h.get? tp=some ot∧It h I a (.ref tp) i es.size ep) where
 sub:=fun b hb=>by simp at hb;simp[hb]
 frame:=fun _ _ _ y hk=>⟨hk a (by simp) o y.1,hk tp (by simp) ot y.2.1,y.2.2.at fun o e=>hk I (by simp) o e⟩
 item:=fun i s Q E hi y hQ=>by
  have hp:ps[i]?=some ps[i]:=aa hi;have hlt:=hps _ (cz hi);have hx:es[ps[i]]?=some (es[ps[i]]'hlt):=er hlt;refine La y.2.2 y.1 hd hf y.2.1 hdt hp hx fun h' hit hs=>?_
  refine hQ _ h' s.toks ?_ ⟨(hs.2 a hne).trans y.1,(hs.2 tp hnt).trans y.2.1,hit⟩ fun b o hb eo=>hs.extBut b o (fun h=>hb (by simp[h])) eo
  rw[al,hp];show some (es.getD ps[i] (0,Value.none)).2=_;rw[bt,hx];rfl
 done:=fun s Q E y hQ=>Ow hh y.2.2 y.1 hd hf y.2.1 hdt (cp (af _)) fun h' he=>hQ h' s.toks fun b o hb eo=>he b o (fun h=>hb (by simp[h])) eo
 self:=fun _ _ _ _ y hQ=>Fs y.2.2 hQ
theorem Bm {w:World}:∀ L:List (Int×Value),(∀ e∈L,El w e)->StrsAre (L.map (·.2)) (L.map fun e=>iS e.2)
 | [],_=>.nil
 | e::L,h=>by
  obtain⟨_,tk,q⟩:=h e (ar ..);rw[am,am];have r:=Bm L fun x hx=>h x (ah _ hx)
  have z:StrsAre (Value.str (iS e.2) tk::L.map (·.2)) (iS e.2::L.map fun e=>iS e.2):=.cons _ _ r;rw[<- q] at z;exact z
section
variable {prog:Program}{w:World}{A:Around}{E:Value->Shared->Prop}{s:Shared}
theorem yM {a:Addr}{ms:List Str}{Q:Value->Shared->Prop}(hS:Is w s.heap a ms)
  (h:∀ (h':Heap) (d:Drawn) (I:Addr) (fp:List Addr) (xs:List Value) (ss:List Str) (St:Nat->Heap->Prop),(∀ A':Around,A'.handled=none->Walks prog w A' I fp [I] xs.length (fun i v=>xs[i]?=some v) St)->St 0 h' ->
   (∀ b o,s.heap.get? b=some o->h'.get? b=some o)->s.heap.objs.size<=I->(∀ b∈fp,b=a∨s.heap.objs.size<=b)->StrsAre xs ss->ss.Perm ms->Q (.ref I) { s with heap:=h',drawn:=d }) :
  wpAny (model prog w) A (pyIter (.ref a)) Q E s:=by
 obtain⟨o,es,ep,t,ho,hex,hd,hel,hnd,hb,hf,hl,hp⟩:=id hS;have hlt:=Heap.lt_size ho;have hps:t.place.size=es.size:=by
  simp only [SetTable.fits,cr,beq_iff_eq] at hf;exact hf.1
 refine wpAny_pyIter_slot hS.ty F.slot_set_iter (wpAny_call_entry F.slot_set_iter hS.ty sR ?_ (F.args_set_iter_1 _));unfold Builtin.«frozenset.__iter__»;refine wpAny_bind (m:=Builtin.Frozenset.slot0 "__iter__" ⟨[.ref a],[]⟩) (wpAny_of_eq (a:=a) rfl ?_)
 unfold Builtin.Frozenset.sizeOf;refine wpAny_bind (wpAny_bind (wpAny_setEntries_of ho hd hf (wpAny_pure ?_)));have hlist:∀ L:List (Int×Value),L.Perm es.toList->StrsAre (L.map (·.2)) (L.map fun e=>iS e.2)∧(L.map fun e=>iS e.2).Perm ms:=fun L hp=>⟨Bm L (hel.perm hp).1,(hel.perm hp).2⟩
 have fin:∀ (L:List (Int×Value)) (slots:Nat->Nat),slots 0=0->L.Perm es.toList->(∀ (i:Nat) (s:Shared) (A':Around) (E':Value->Shared->Prop) (Q':Option (Value×Nat)->Shared->Prop),s.heap.get? a=some o->i<=L.length->Q' ((L[i]?).map fun e=>(e.2,slots (i+1))) s->wpAny (model prog w) A' (setNext a (slots i) i ep) Q' E' s) ->
   wpAny (model prog w) A.in1 (setEpoch a >>= fun e=>newFields "set_iterator" [rawInt 0,rawInt 0,.ref a,rawInt (es.size:Int),rawInt (e:Int)] >>= ret) (fun fin s'=>∃ v,fin = .done (.ret v)∧∃ (T:String) (r:Value),s'.TypeIs v T∧typeLookup (.type T) "__next__" = pure (some r)∧Q v s') E s:=fun L slots h0 hL hN=>by
  refine wpAny_bind (wpAny_setEpoch_of ho hd hf ?_);have hI:It (s.heap.push { cls:=.type "set_iterator",data:=.fields #[rawInt 0,rawInt 0,.ref a,rawInt (es.size:Int),rawInt (ep:Int)] }) s.heap.objs.size a (rawInt (slots 0:Int)) 0 es.size ep:=⟨_,Heap.get?_push_size _ rfl,rfl,by rw[h0];rfl⟩
  obtain⟨q1,q2⟩:=hlist L hL;refine wpAny_bind (wpAny_newObj_type (wpAny_pure ⟨_,rfl, "set_iterator",_,⟨_,Heap.get?_push_size _ rfl,rfl⟩,cR.lookup,?_⟩))
  have z:=h (s.heap.push { cls:=.type "set_iterator",data:=.fields #[rawInt 0,rawInt 0,.ref a,rawInt (es.size:Int),rawInt (ep:Int)] }) s.drawn s.heap.objs.size [s.heap.objs.size,a] (L.map (·.2)) _ (fun i h=>h.get? a=some o∧It h s.heap.objs.size a (rawInt (slots i:Int)) i es.size ep) (fun A' hA'=>by
     rw[aR];exact Ce hA' (a7 hlt) hd hf hN) ⟨Heap.get?_push_of_some _ ho,hI⟩ (fun b o e=>Heap.get?_push_of_some _ e) (af _) (fun b hb=>by
     rcases aw.mp hb with rfl | hb
     · exact .inr (af _)
     · exact .inl (az.mp hb)) q1 q2
  exact z
 have hdrw:∀ (Q':Bool->Shared->Prop),Q' (!byT w&&(!t.plain&&decide (es.size>1))) s->wpAny (model prog w) A.in1 (setDrawn a) Q' E s:=fun Q' q=>by
  unfold setDrawn;refine wpAny_bind (wpAny_setState_of ho hd hf ?_)
  dsimp only
  exact wpAny_bind (dP (wpAny_pure q))
 refine wpAny_bind (hdrw _ ?_);by_cases hby:byT w=true
 ·rw[hby]
  simp only [jv,kc,cm,↓reduceIte];refine wpAny_bind (wpAny_pure ?_);refine fin (pickOrder (w.params.setOrder a ep) es).toList (fun _=>0) rfl (pP _ _) fun i s' A' E' Q' ho' hi q=>?_
  unfold setNext;refine wpAny_bind (wpAny_setState_of ho' hd hf ?_)
  dsimp only
  refine wpAny_bind (dP ?_);rw[hby,if_pos rfl,bne_self_eq_false,if_neg ak];unfold setWalk;refine wpAny_bind (wpAny_bind (wpAny_setState_of ho' hd hf ?_))
  dsimp only
  refine wpAny_bind (dP ?_);rw[hby,if_pos rfl];refine wpAny_bind (wpAny_askSetting (wpAny_pure (wpAny_pure ?_)));rw[gv] at q;exact q
 ·have hbf:byT w=false:=jc.mpr hby
  have hld:t.led=true:=hl.resolve_left hby;by_cases h1:es.size<=1
  ·have hnot:(!byT w&&(!t.plain&&decide (es.size>1)))=false:=by rw[decide_eq_false (by omega)];simp
   rw[hnot];simp only [cm,↓reduceIte];refine wpAny_bind (wpAny_pure ?_);have hN:∀ (slot i:Nat) (s':Shared) (A':Around) (E':Value->Shared->Prop) (Q':Option (Value×Nat)->Shared->Prop),s'.heap.get? a=some o ->
       Q' (match es[SetTable.below t.place slot]?,t.place[SetTable.below t.place slot]? with | some (_,x),some j=>some (x,j+1) | _,_=>none) s'->wpAny (model prog w) A' (setNext a slot i ep) Q' E' s':=fun slot i s' A' E' Q' ho' q=>by
     unfold setNext;refine wpAny_bind (wpAny_setState_of ho' hd hf ?_)
     dsimp only
     refine wpAny_bind (dP ?_);rw[hbf,if_neg ak];have hdr:(!t.plain&&decide (es.size>1))=false:=by rw[decide_eq_false (by omega)];simp
     show wpAny _ _ (if (!t.plain&&decide (es.size>1))=true then _ else _) _ _ s';rw[hdr,if_neg ak];refine wpAny_bind (m:=if (!t.led && !es.isEmpty)=true then unsupported "set:maker-not-led" else pure ()) ?_
     rw[hld];simp only [jv,kc,cm,↓reduceIte];exact wpAny_pure (wpAny_pure q)
   by_cases h0:es.size=0
   · have ee:es = #[]:=k9 h0
     refine fin [] (fun _=>0) rfl (by rw[ee]) fun i s' A' E' Q' ho' hi q=>hN 0 i s' A' E' Q' ho' ?_
     rw[ee,nu (by simp)];exact q
   · obtain⟨e0,he0⟩:∃ e0,es = #[e0]:=by
       obtain⟨l⟩:=es
       match l,h0,h1 with
       | [e0],_,_=>exact⟨e0,rfl⟩
       | [],h,_=>exact absurd rfl h
       | _::_::_,_,h=>simp at h
     obtain⟨j,hj⟩:∃ j,t.place = #[j]:=by
       rw[he0] at hps
       cases hpl:t.place with
       | mk l =>
         rw[hpl] at hps
         match l,hps with
         | [j],_=>exact⟨j,rfl⟩
     refine fin [e0] (fun i=>if i=0 then 0 else j+1) rfl (by rw[he0]) fun i s' A' E' Q' ho' hi q=>hN _ i s' A' E' Q' ho' ?_
     have b0:SetTable.below #[j] 0=0:=by
       simp[SetTable.below,SetTable.below.go]
     have b1:SetTable.below #[j] (j+1)=1:=by
       simp[SetTable.below,SetTable.below.go]
     match i,hi with
     | 0,_ =>
       rw[if_pos rfl,hj,b0,he0];exact q
     | 1,_ =>
       rw[if_neg (by decide),hj,b1,he0];exact q
  ·have hpl:t.plain=false:=hp.resolve_left (by omega)
   have hyes:(!byT w&&(!t.plain&&decide (es.size>1)))=true:=by rw[hbf,hpl,decide_eq_true (by omega)];rfl
   rw[hyes,if_pos rfl];have hr:(cf es.size).length=es.size:=dj;refine wpAny_bind (m:=drawOrder es.size (cf es.size)) ?_;have dr:=Gk (prog:=prog) (w:=w) (A:=A.in1) (E:=E) (cf es.size) s;rw[hr] at dr;refine dr _ fun ps d hpp=>?_
   have hpl:ps.length=es.size:=by rw[hpp.length_eq,hr]
   have hs:sizeLine=16777216:=sizeLine_eq;have sb:scanBound=4096:=rfl;refine wpAny_bind (wpAny_newTuple ?_ (by rw[aR];omega));generalize hot:({ cls:=.type "tuple",data:=.seq (ps.map fun j:Nat=>rawInt (j:Int)).toArray }:Obj)=ot
   have hg:(s.heap.push ot).get? s.heap.objs.size=some ot:=Heap.get?_push_size _ (by rw[<- hot];rfl);have ho2:(s.heap.push ot).get? a=some o:=Heap.get?_push_of_some _ ho;refine wpAny_bind (wpAny_setEpoch_of (s:={ s with heap:=s.heap.push ot,drawn:=d }) ho2 hd hf ?_);refine wpAny_bind (wpAny_newObj_type (wpAny_pure ⟨_,rfl, "set_iterator",_,⟨_,Heap.get?_push_size _ rfl,rfl⟩,cR.lookup,?_⟩))
   have hsz:(s.heap.push ot).objs.size=s.heap.objs.size+1:=Heap.size_push _ _;have hfm:(ps.map fun p=>es.getD p (0,Value.none)).Perm es.toList:=by
     have e1:(cf es.size).map (fun p=>es.getD p (0,Value.none))=es.toList:=by
       apply ra
       · simp
       · intro i g1 g2
         have g3:i<es.size:=by simpa using g1
         simp[bt,g3]
     exact (hpp.map _).trans (by rw[e1])
   obtain⟨q1,q2⟩:=hlist _ hfm;rw[br,br] at q1;rw[br] at q2;have hps':∀ p∈ps,p<es.size:=fun p hp=>cx.mp (hpp.mem_iff.mp hp)
   have hgo:∀ (o2:Obj),o2 = { cls:=.type "set_iterator",data:=.fields #[.ref s.heap.objs.size,rawInt 0,.ref a,rawInt (es.size:Int),rawInt (ep:Int)] }->Q (.ref (s.heap.objs.size+1)) { s with heap:=(s.heap.push ot).push o2,drawn:=d }:=fun o2 ho2'=>by
    refine h ((s.heap.push ot).push o2) d (s.heap.objs.size+1) [s.heap.objs.size+1,a,s.heap.objs.size] (ps.map fun p=>(es.getD p (0,Value.none)).2) _ (fun i h=>h.get? a=some o∧h.get? s.heap.objs.size=some ot∧It h (s.heap.objs.size+1) a (.ref s.heap.objs.size) i es.size ep) (fun A' hA'=>by
        rw[aR];exact Ae (ot:=ot) (nt:=0) hA' (a7 (dg hlt)) (a7 (fc _)) hd hf (by rw[<- hot]) hps') ⟨Heap.get?_push_of_some _ ho2,Heap.get?_push_of_some _ hg,?_⟩ (fun b o e=>Heap.get?_push_of_some _ (Heap.get?_push_of_some _ e)) (fm _) (fun b hb=>?_) q1 q2
    · rw[<- hsz]
      exact⟨o2,Heap.get?_push_size _ (by rw[ho2'];rfl),by rw[ho2'],by rw[ho2'];rfl⟩
    · rcases aw.mp hb with rfl | hb
      · exact .inr (fm _)
      · rcases aw.mp hb with rfl | hb
        · exact .inl rfl
        · exact .inr (lu (az.mp hb).symm)
   have z:=hgo _ rfl;rw[<- hsz] at z;exact z
end
theorem Ag {xs:List Value}{acc:Array Value}(h:ItemsOf (fun i v=>xs[i]?=some v) acc xs.length):acc.toList=xs:=by
 apply kg;intro i;rw[gv]
 cases e:acc[i]? with
 | some v=>exact (h.2 i v e).symm
 | none =>
  have:acc.size<=i:=by
   rcases du i acc.size with z | z
   ·rw[er z] at e;cases e
   ·exact z
  rw[cp (by rw[<- h.1];exact this)]
section
variable {prog:Program}{w:World}{A:Around}{E:Value->Shared->Prop}{s:Shared}
theorem xP {a:Addr}{ms:List Str}{Q:Bool->Shared->Prop}(hS:Is w s.heap a ms)(h:Q false s):wpAny (model prog w) A (Builtin.List.listLengthHint (.ref a)) Q E s:=by
 unfold Builtin.List.listLengthHint;refine wpAny_bind (wpAny_specialOf hS.ty F.slot_set_len.lookup ?_);generalize hid:("set.__len__" : String)=id0
 wp_delta
 rw[show splitId id0=some ("set", "__len__") from by subst hid;decide +kernel]
 subst hid;refine wpAny_bind (wpAny_isInstance (T := "set") (b:=true) hS.ty sub_set_self ?_)
 refine wpAny_ite_split (fun hab=>absurd hab (by decide)) (fun _=>?_);refine wpAny_ite_split (fun _=>?_) (fun hab=>absurd (by decide +kernel) hab);refine wpAny_bind (wpAny_typeOf hS.ty ?_);exact wpAny_pure h
theorem nY {a:Addr}{ms:List Str}{R:Result->Shared->Prop}(hh:A.handled=none)(hS:Is w s.heap a ms)(hz:ms.length<=sizeLine)(S:Addr)(res:Value)(h1:S≠a)(hSl:s.heap.get? S=some { cls:=.type "list",data:=.seq #[] })
  (hR:∀ s' acc' c' ss,(∀ b o,b≠S->s.heap.get? b=some o->s'.heap.get? b=some o)->s'.gens=s.gens->s'.os=s.os->s'.heap.get? S=some { cls:=.type "list",dict:=none,data:=.seq acc' c',slots:=#[] }->StrsAre acc'.toList ss->ss.Perm ms->R (.ok (.ret res)) s') :
  wpAny (model prog w) A.in1 (Builtin.List.listExtendWith (.ref S) (.ref a) res)
   (fun fin s'=>match fin with | .done f=>R (.ok f) s' | .again c'=>c'.quiet=true∧codeAny (model prog w) A c' R s') (fun e s'=>R (.error e) s') s:=by
 unfold Builtin.List.listExtendWith;refine wpAny_bind (wpAny_typeOf hS.ty ?_);have g1:Builtin.List.listSameRef (.ref S) (.ref a)=false:=by simp[Builtin.List.listSameRef,h1]
 have g2:(Value.type "set" == Value.type "list")=false:=by decide
 have g3:(Value.type "set" == Value.type "tuple")=false:=by decide
 simp only [g1,g2,g3,gq,cm,if_false];refine wpAny_bind (yM (A:=A.in1) hS fun h2 d I fp xs ss St W st0 kp hIs hfp hss hpm=>?_);have hlt:=Heap.lt_size hSl;have hSI:S≠I:=a7 (bz hlt hIs);have hSf:S∉fp:=fun z=>by
  rcases hfp S z with e | e
  ·exact h1 e
  ·exact absurd hlt (nw.mpr e)
 have hS2:Is w h2 a ms:=hS.at fun o e=>kp a o e
 refine wpAny_bind (wpAny_holding (xP (s:={ s with heap:=h2,drawn:=d }) hS2 ?_));have WS:=(W A.in1 hh).toS;have hxl:xs.length=ms.length:=by rw[hss.length,hpm.length_eq]
 have last:∀ (h0:Heap) (c0:Nat),(∀ b o,b≠S->h2.get? b=some o->h0.get? b=some o)->h0.get? S=some { cls:=.type "list",data:=.seq #[] c0 } ->
   wpAny (model prog w) A.in1 (again (.builtin "list.extend.loop" ⟨[.ref S,.ref I,res],[]⟩))
    (fun fin s'=>match fin with | .done f=>R (.ok f) s' | .again c'=>c'.quiet=true∧codeAny (model prog w) A c' R s') (fun e s'=>R (.error e) s') { s with heap:=h0,drawn:=d }:=fun h0 c0 hk0 hS0=>by
  refine wpAny_pure ⟨plainId_quiet F.plain_extend_loop _,codeAny_extend_loopS WS (by omega) S hSf res xs.length 0 _ #[] c0 rfl (b8 _) ?_ hS0 (ItemsOf.nil _) fun s' acc' c' hm hS' hacc=>?_⟩
  ·exact (W A.in1 hh).frame 0 h2 h0 st0 fun b hb o e=>hk0 b o (fun z=>hSf (z▸hb)) e
  ·refine hR s' acc' c' ss (fun b o hb e=>?_) hm.gens hm.os hS' (by rw[Ag hacc];exact hss) hpm
   by_cases hbI:b=I
   ·subst hbI
    exact absurd (Heap.lt_size e) (nw.mpr hIs)
   ·exact hm.heap b o (by simp[hb,hbI]) (hk0 b o hb (kp b o e))
 refine wpAny_ite_split (fun _=>?_) (fun hab=>absurd (by decide +kernel) hab);refine wpAny_bind (wpAny_rule ?_);have hSl2:h2.get? S=some { cls:=.type "list",data:=.seq #[] }:=kp S _ hSl
 refine wpAny_bind (m:=((do updateSeq S (fun z=>z.push .none);updateSeq S (fun z=>z.pop)):Sem Unit)) (wpAny_bind (wpAny_updateSeq (s:={ s with heap:=h2,drawn:=d }) hSl2 rfl ?_));have k1:=Heap.get?_update_self (Obj.mapSeq (fun z=>z.push .none)) hSl2 rfl;refine wpAny_updateSeq k1 rfl ?_;have k2:=Heap.get?_update_self (Obj.mapSeq (fun z=>z.pop)) k1 rfl;exact last _ _ (fun b o hb e=>(Heap.get?_update_other _ _ (Ne.symm hb)).trans ((Heap.get?_update_other _ _ (Ne.symm hb)).trans e)) k2
theorem mC {a:Addr}{ms:List Str}{Q:List Value->Shared->Prop}(hh:A.handled=none)(hS:Is w s.heap a ms)(hz:ms.length<=sizeLine)
  (hQ:∀ s' vs ss,(∀ b o,s.heap.get? b=some o->s'.heap.get? b=some o)->s'.gens=s.gens->s'.os=s.os->StrsAre vs ss->ss.Perm ms->Q vs s'):wpAny (model prog w) A (collect (.ref a)) Q E s:=by
 have hlt:=Heap.lt_size hS.there.choose_spec;unfold collect;refine wpAny_bind (wpAny_runValue (codeAny_builtin F.entry_proto_collect ?_));rw[Around.under_plainId F.plain_proto_collect];refine wpAny_bind (m:=newList []) (wpAny_newObj_type (wpAny_pure ⟨plainId_quiet F.plain_list_iadd _,codeAny_builtin F.entry_list_iadd ?_⟩));rw[Around.under_plainId F.plain_list_iadd];have hSl:(s.heap.push { cls:=.type "list",data:=.seq #[] }).get? s.heap.objs.size=some { cls:=.type "list",data:=.seq #[] }:=Heap.get?_push_size _ rfl
 have go:∀ R:Result->Shared->Prop,(∀ s' acc' c' ss,(∀ b o,s.heap.get? b=some o->s'.heap.get? b=some o)->s'.gens=s.gens->s'.os=s.os->s'.heap.get? s.heap.objs.size=some { cls:=.type "list",dict:=none,data:=.seq acc' c',slots:=#[] }->StrsAre acc'.toList ss->ss.Perm ms->R (.ok (.ret (.ref s.heap.objs.size))) s') ->
   wpAny (model prog w) A.in1 (Builtin.List.listExtendWith (.ref s.heap.objs.size) (.ref a) (.ref s.heap.objs.size))
    (fun fin s'=>match fin with | .done f=>R (.ok f) s' | .again c'=>c'.quiet=true∧codeAny (model prog w) A c' R s') (fun e s'=>R (.error e) s') { s with heap:=s.heap.push { cls:=.type "list",data:=.seq #[] } }:=fun R hR =>
  nY (A:=A) (s:={ s with heap:=s.heap.push { cls:=.type "list",data:=.seq #[] } }) hh (hS.at fun o e=>Heap.get?_push_of_some _ e) hz s.heap.objs.size (.ref s.heap.objs.size) (fh hlt) hSl
   fun s' acc' c' ss kp g1 g2 e1 e2 e3=>hR s' acc' c' ss (fun b o e=>kp b o (a7 (Heap.lt_size e)) (Heap.get?_push_of_some _ e)) g1 g2 e1 e2 e3
 refine go (fun r s'=>match r with
  | .ok (.ret v)=>wpAny (model prog w) A (match v with
   | .ref a=>do
    match (<- load a).data with
    | .seq xs _=>pure xs.toList
    | _=>unsupported "internal:collect"
   | _=>unsupported "internal:collect") Q E s'
  | .ok _=>False
  | .error e=>E e s') fun s' acc' c' ss kp g1 g2 hS' e2 e3=>?_
 refine wpAny_bind (m:=load s.heap.objs.size) (wpAny_load hS' (wpAny_pure ?_));exact hQ s' acc'.toList ss kp g1 g2 e2 e3
theorem wN (a:Value){Q₁:Value->Shared->Prop}(h:Q₁ (.ref s.heap.objs.size) { s with heap:=s.heap.push (bV w) }):codeAny (model prog w) A (.call (.builtin "set.__new__") ⟨[.type "set",a],[]⟩) (wants Q₁ E) s:=by
 refine codeAny_of_tree (show wpAny _ A.in1 (do checkBuiltinCall "set.__new__" ⟨[.type "set",a],[]⟩;again (.builtin "set.__new__" ⟨[.type "set",a],[]⟩)) _ _ s from ?_)
 refine wpAny_bind (wpAny_of_eq (F.newCall_set_1 a) (wpAny_pure ⟨plainId_quiet F.plain_set_new _,codeAny_builtin F.entry_set_new ?_⟩));rw[Around.under_plainId F.plain_set_new _];unfold Builtin.«set.__new__» Builtin.Frozenset.newClass;have hsub:=sub_set_self;obtain⟨hp,g,d,tk,os⟩:=s
 dsimp only
 wp_walk
 refine wpAny_askSetting (wpAny_pure ?_)
 dsimp only
 simp only [newObj];refine wpAny_bind (wpAny_alloc (wpAny_pure (wpAny_pure h)))
end
end SS
namespace L2
open PySem PySem.Spec PyProof.Rows
namespace SE
def Of (w:World)(h:Heap)(D:Addr)(ls:List (List Nat))(i:Nat):Prop:=∃ ms,SS.Is w h D ms∧(∀ x,x∈ms↔x∈(ls.take i).map tx)∧ms.length<=i
theorem Of.at {w:World}{h h':Heap}{D:Addr}{ls:List (List Nat)}{i:Nat}(x:Of w h D ls i)(k:∀ o,h.get? D=some o->h'.get? D=some o):Of w h' D ls i:=let ⟨ms,a,b⟩:=x;⟨ms,a.at k,b⟩
section
variable {prog:Program}{w:World}{A:Around}{R:Result->Shared->Prop}{J:Addr}{fp wr:List Addr}{G:Array GenState->Array GenState->Prop}{n:Nat}{P:Nat->Value->Prop}{St:Nat->Shared->Prop}
theorem Ot (W:WalksS prog w A.in1 J fp wr G n P St){D:Addr}(hD:D∉fp)(ls:List (List Nat))(hv:∀ i v,P i v->∃ t,v=Value.str (tx (ls.getD i [])) t)(hn:n+1<scanBound)(hnl:n<=ls.length) :
  ∀ (k i:Nat) (s:Shared),n-i=k->i<=n->St i s->Of w s.heap D ls i ->
   (∀ s',Moved (D::wr) G s s'->Of w s'.heap D ls n->R (.ok (.ret .none)) s')->codeAny (model prog w) A (.builtin "set.update.loop" ⟨[.ref D,.ref J],[]⟩) R s:=by
 have hDw:D∉wr:=fun z=>hD (W.sub _ z)
 have up:∀ b∈wr,b∈D::wr:=fun b hb=>.tail _ hb
 intro k
 induction k with
 | zero =>
  intro i s hk hi st hs hR;obtain rfl:i=n:=by omega
  refine codeAny_builtin de ?_;rw[Around.under_plainId cc];refine wpAny_bind (m:=pyNext (.ref J)) (W.done s _ _ st fun s2 mv=>?_);exact (show wpAny _ A.in1 (ret Value.none) _ _ s2 from wpAny_pure (hR s2 (mv.mono up) (hs.at fun o e=>mv.heap D o hDw e)))
 | succ k ih =>
  intro i s hk hi st hs hR;have hlt:i<n:=by omega
  refine codeAny_builtin de ?_;rw[Around.under_plainId cc];refine wpAny_bind (m:=pyNext (.ref J)) (W.item i s _ _ hlt st fun v s2 pv st2 mv=>?_);obtain⟨t,rfl⟩:=hv i v pv;have hs2:=hs.at fun o e=>mv.heap D o hDw e
  refine wpAny_bind (m:=holding [Value.str (tx (ls.getD i [])) t] (setAdd D (.str (tx (ls.getD i [])) t))) (wpAny_holding ?_);unfold setAdd;refine wpAny_holding (wpAny_bind ((e9 prog w).pyHash (k:=tx (ls.getD i [])) (strKind_is _ _ _ _) ?_));obtain⟨ms,hi1,hi2,hi3⟩:=hs2;refine SS.yX (s:={ s2 with toks:=s2.toks+1 }) hi1 (by omega) fun h3 ms3 sb i3 m3 l3=>?_
  have x4:Of w h3 D ls (i+1):=by
   refine⟨ms3,i3,fun x=>?_,by omega⟩;have e:ls.take (i+1)=ls.take i++[ls.getD i []]:=by
    rw[cn,aj,aa (by omega)];rfl
   rw[m3,hi2,e,bn,bj,am,g7,az]
  refine wpAny_pure ⟨plainId_quiet cc _,ih (i+1) _ (by omega) hlt (W.frame _ s2 _ _ st2 (fm _) fun b hb o e=>(sb.2 b fun z=>hD (z▸hb)).trans e) x4 fun s5 m5 x5=>?_⟩;refine hR s5 (Moved.trans W.gtrans ((mv.mono up).then_heap (fm _) fun b o hb e=>(sb.2 b fun z=>hb (z▸.head _)).trans e) m5) x5
variable {E:Value->Shared->Prop}{s:Shared}
theorem rY {l:Addr}{its:Array Value}{ls:List (List Nat)}{Q:Value->Shared->Prop}(hh:A.handled=none)(hl:s.heap.IsList l its)(hv:∀ i v,its[i]?=some v->∃ t,v=Value.str (tx (ls.getD i [])) t)(hn:its.size+1<scanBound)(hnl:its.size<=ls.length)
  (h:∀ (h':Heap) (tk:Nat),Of w h' s.heap.objs.size ls its.size->(∀ b o,s.heap.get? b=some o->h'.get? b=some o)->Q (.ref s.heap.objs.size) { s with heap:=h',toks:=tk }) :
  wpAny (model prog w) A (call (.type "set") [.ref l]) Q E s:=by
 obtain⟨mc,mt,f0⟩:=F.called_set.mro;have f1:=F.called_set.made;have f2:=F.called_set.sub;have f3:=F.called_set.notType;have f4:=F.called_set.canCreate;have f5:=F.typeCall_set_1 (.ref l);refine wpAny_call (codeAny_of_tree (show wpAny _ _ (callAny (.type "set") _) _ _ _ from wpAny_pure ⟨Code.quiet_builtin _ (by decide +kernel),codeAny_builtin F.entry_type_call ?_⟩))
 rw[Around.under_plain (weight_type_call_type "set" [.ref l] []) rfl]
 repeat (any_goals (first | wp_step | assumption))
 refine codeAny_mono (SS.wN (.ref l) (E:=E) (Q₁:=fun ob s1=>ob = .ref s.heap.objs.size∧s1 = { s with heap:=s.heap.push (SS.bV w) }) ⟨rfl,rfl⟩) fun r s1 hr=>?_
 cases r with
 | error e=>exact hr
 | ok fl =>
  cases fl with
  | ret ob =>
   obtain⟨rfl,rfl⟩:=hr;generalize hob:SS.bV w=ob;have hD:(s.heap.push ob).get? s.heap.objs.size=some ob:=Heap.get?_push_size _ (by rw[<- hob];rfl);have hT:Shared.TypeIs { s with heap:=s.heap.push ob } (.ref s.heap.objs.size) "set" := ⟨_,hD,by rw[<- hob];rfl⟩
   have f6:=F.called_set.init.lookup;have f7:=F.called_set.init.bind (.ref s.heap.objs.size)
   repeat (any_goals (first | wp_step | assumption))
   refine codeAny_mono (codeAny_call_builtin (R:=wants (fun r s2=>r = .none∧∃ h' tk,s2 = { s with heap:=h',toks:=tk }∧Of w h' s.heap.objs.size ls its.size∧∀ b o,s.heap.get? b=some o->h'.get? b=some o) E)
    F.called_set.init.plain F.entry_set_init (check_set_init_1 hT ?_)) fun r2 s2 hr2=>?_
   ·obtain⟨⟨oc,od,odt,osl⟩,hol,hcl,nl,hdl⟩:=id hl
    simp only at hcl hdl;subst hcl hdl;have hol':(s.heap.push ob).get? l=some { cls:=.type "list",dict:=od,data:=.seq its nl,slots:=osl }:=Heap.get?_push_of_some _ hol
    have f8:=F.sub_list_set;have f9:=F.sub_list_frozenset;have f10:(Value.type "list" == Value.type "dict")=false:=by decide
    have hl1:(s.heap.push ob).IsList l its:=⟨_,hol',rfl,nl,rfl⟩;subst hob;unfold Builtin.«set.__init__» noKeywords Builtin.Frozenset.updateFrom;generalize hPI:pyIter=PI
    wp_walk
    subst hPI;refine wpAny_pyIter_list hl1 ?_;refine wpAny_bind (wpAny_runValue ?_);have hlt:l<s.heap.objs.size:=Heap.lt_size hol;have hh3:A.in1.in1.in1.handled=none:=by simp[hh]
    have hsz:(s.heap.push (SS.bV w)).objs.size=s.heap.objs.size+1:=Heap.size_push _ _;have hne:l≠(s.heap.push (SS.bV w)).objs.size:=by rw[hsz];exact a7 (dg hlt)
    have hfp:s.heap.objs.size∉[(s.heap.push (SS.bV w)).objs.size,l]:=by
     rw[hsz];intro z;rcases aw.mp z with e | e
     ·exact a7 (fc _) e
     ·exact fh hlt (az.mp e)
    refine Ot ((Walks.list hh3 _ l hne its).toS) (D:=s.heap.objs.size) hfp ls hv hn hnl (its.size-0) 0 _ (by omega) (b8 _) ⟨⟨_,Heap.get?_push_size _ rfl,rfl,rfl⟩,hl1.push _⟩ ?_ fun s3 mv x3=>?_
    ·have hg:((s.heap.push (SS.bV w)).push { cls:=.type "list_iterator",data:=.fields #[.ref l,.int 0 0] }).get? s.heap.objs.size=some (SS.bV w):=Heap.get?_push_of_some _ hD
     exact⟨[],(SS.Is.fresh s.heap).at fun o e=>Heap.get?_push_of_some _ e,fun x=>by simp,b8 _⟩
    ·obtain⟨h3,g3,d3,tk3,os3⟩:=s3
     obtain rfl:g3=s.gens:=mv.gens;obtain rfl:d3=s.drawn:=mv.drawn;obtain rfl:os3=s.os:=mv.os;refine wpAny_pure (show wpAny _ _ (ret Value.none) _ _ _ from wpAny_pure ⟨rfl,h3,tk3,rfl,x3,fun c o e=>?_⟩);have hc:=Heap.lt_size e;exact mv.heap c o (show c∉[s.heap.objs.size,(s.heap.push (SS.bV w)).objs.size] by
      rw[hsz];intro z;rcases aw.mp z with e | e
      ·exact a7 hc e
      ·exact a7 (dg hc) (az.mp e)) (Heap.get?_push_of_some _ (Heap.get?_push_of_some _ e))
   ·cases r2 with
    | error e=>exact hr2
    | ok fl2 =>
     cases fl2 with
     | ret r =>
      obtain⟨rfl,h3,tk,rfl,x3,k3⟩:=hr2
      repeat (any_goals (first | wp_step | assumption))
      exact h _ _ x3 k3
     | _=>exact hr2.elim
  | _=>exact hr.elim
end
end SE
def nB (w:World)(D:Addr)(ms:List (List Nat)):HO:=.ext fun h=>SS.Is w h D (ms.map tx)
theorem sQ {ls:List (List Nat)}{x:Str}:x∈ls.map tx↔x.cps.toList∈ls:=by
 rw[au];constructor
 ·rintro⟨l,h,rfl⟩
  rw[dH];exact h
 ·intro h
  exact⟨_,h,kB x⟩
theorem Pi {w:World}{h:Heap}{D:Addr}{ms ms':List Str}(x:SS.Is w h D ms)(p:ms.Perm ms'):SS.Is w h D ms':=by
 obtain⟨o,es,ep,t,ho,hex,hd,hel,hnd,r⟩:=x;exact⟨o,es,ep,t,ho,hex,hd,⟨hel.1,hel.2.trans p⟩,p.nodup_iff.mp hnd,r⟩
theorem Bk {w:World}{h:Heap}{D:Addr}{ms:List Str}(x:SS.Is w h D ms):ms.Nodup:=let ⟨_,_,_,_,_,_,_,_,n,_⟩:=x;n
theorem Ks {ls:List (List Nat)}(h:ls.Nodup):(ls.map tx).Nodup:=by
 refine dy.mpr (h.imp fun hne e=>hne (fZ e))
section
variable {X:Cx}
theorem xE {pins:List (Addr×Obj)}{σ:St}{H:Hp}{s:Shared}{D:Addr}{ms:List (List Nat)}(I:Inv X pins σ H s)(h:H D=some (nB X.w D ms)):SS.Is X.w s.heap D (ms.map tx):=by
 obtain⟨x,_⟩:=(show cH X.prog X.w H s.heap D (nB X.w D ms) from I.hok D _ h);exact x
theorem wU (hc:X.calm=true):eP X (.type "set") (fun xs H Q=>∃ (p:Addr) (ls:List (List Nat)),xs=[.ref p]∧SqL X.K H p (ls.map T)∧ls.length+1<4096∧∀ D,H D=none->Q (.ref D) (upd H D (nB X.w D (uniq ls)))):=by
 intro pins s σ H xs us Q I r h;obtain⟨p,ls,rfl,hq,hz,q⟩:=h;obtain⟨u,rfl,ru⟩:=gD r;cases ru;obtain⟨its,rv,pl,_⟩:=I.list hq;have hlen:=rv.length;rw[aR] at hlen;refine SE.rY (I.ok.hd hc) pl.isList (ls:=ls) (fun i v e=>Os rv (by simpa using e)) (by rw[a8];unfold scanBound;omega) (by rw[a8];omega) fun h' tk x k=>?_
 obtain⟨ms,i1,i2,_⟩:=x;have x:SS.Is X.w h' s.heap.objs.size ((uniq ls).map tx):=by
  refine Pi i1 ((dh (Bk i1) (Ks (tV ls))).mpr fun y=>?_);rw[i2,sQ,sQ,iI,a8,<- hlen,da]
 have hf:H s.heap.objs.size=none:=I.hok.fresh (af _);refine⟨.ref s.heap.objs.size,_,I.laid (t':=tk) k (af _) (o:=nB X.w s.heap.objs.size (uniq ls)) ⟨x,x.there,fun h1 h2 x1 kk=>x1.at kk⟩,rfl,q _ hf⟩
theorem Ty:OpR X (binaryOp .BitOr) (fun x y H Q=>∃ (a b:Addr) (ls ms:List (List Nat)),x = .ref a∧y = .ref b∧a≠b∧H a=some (nB X.w a ls)∧H b=some (nB X.w b ms)∧ls≠[]∧ls.length+ms.length<=128 ∧
  ∀ (D:Addr) (qs:List (List Nat)),H D=none->qs.Nodup->qs.length<=ls.length+ms.length->(∀ z,z∈qs↔z∈ls∨z∈ms)->Q (.ref D) (upd H D (nB X.w D qs))):=by
 intro pins s σ H x y v u Q I rx ry h;obtain⟨a,b,ls,ms,rfl,rfl,hab,h1,h2,hne,hsz,q⟩:=h;cases rx;cases ry;refine SS.Wb hab (xE I h1) (xE I h2) (fun z=>hne (List.map_eq_nil_iff.mp z)) (by rw[aR,aR];exact hsz) fun h' ms' kp i hm hl=>?_
 have em:(ms'.map fun x=>x.cps.toList).map tx=ms':=by
  rw[br]
  conv=>rhs;rw[<- j6 ms']
  exact bv fun x _=>kB x
 have hnd:(ms'.map fun x=>x.cps.toList).Nodup:=dy.mpr ((Bk i).imp fun {a b} hne e=>hne ((kB a).symm.trans ((congrArg tx e).trans (kB b))));have x:SS.Is X.w h' s.heap.objs.size ((ms'.map fun x=>x.cps.toList).map tx):=by rw[em];exact i
 refine⟨.ref s.heap.objs.size,_,I.laid (t':=s.toks) kp (af _) (o:=nB X.w s.heap.objs.size (ms'.map fun x=>x.cps.toList)) ⟨x,x.there,fun h1 h2 x1 kk=>x1.at kk⟩,rfl,q _ _ (I.hok.fresh (af _)) hnd (by rw[aR];rw[aR,aR] at hl;exact hl) fun z=>?_⟩;have e:=hm (tx z);rw[sQ,sQ,dH] at e;rw[<- e,<- em,sQ,dH,em]
end
structure lV (J:It)(H:Hp)(vs:List V):Prop where
 go:∀ i H',aJ H H'->i<vs.length->J.go i H'
 yl:∀ i H' y H2,aJ H H'->J.yld i H' y H2->H2=H'∧vs[i]?=some y
 st:∀ H',aJ H H'->J.stop vs.length H'
theorem cI {K:ae}{a:Addr}{H:Hp}{vs:List V}(h:SqL K H a vs):lV (Itl K a) H vs :=
 ⟨fun i H' s hi=>⟨vs,vs[i],s.seq h,aa hi⟩,fun i H' y H2 s ⟨e1,e2⟩=>⟨e1,e2 vs (s.seq h)⟩,fun H' s=>⟨vs,s.seq h,af _⟩⟩
theorem pV {K:ae}{H H':Hp}{p:Addr}{xs:List V}(s:aJ H H')(h:SqT K H p xs):SqT K H' p xs:=by
 rcases h with (h | ⟨q,h⟩) | h
 ·exact .inl (.inl (s _ _ h))
 ·exact .inl (.inr ⟨q,s _ _ h⟩)
 ·exact .inr h
theorem iD {K:ae}{a:Addr}{H:Hp}{vs:List V}(h:SqT K H a vs):lV (Itt K a) H vs :=
 ⟨fun i H' s hi=>⟨vs,vs[i],pV s h,aa hi⟩,fun i H' y H2 s ⟨e1,e2⟩=>⟨e1,e2 vs (pV s h)⟩,fun H' s=>⟨vs,pV s h,af _⟩⟩
theorem Fa {l:List Nat}{H:Hp}:lV (Itx l) H ((l.map fun c=>[c]).map T) :=
 ⟨fun i H' _ hi=>by (show i<l.length;simpa using hi),fun i H' y H2 _ ⟨e1,c,hc,e2⟩=>⟨e1,by rw[al,al,hc,e2];rfl⟩,fun H' _=>by show l.length<=_;simp⟩
theorem nP {J:It}{vs:List V}{te:TE}{σ:St}{H:Hp}{Q:VK}(f:V->V)(rd:lV J H vs)(hn:vs.length<=sizeLine)
  (he:∀ x H',x∈vs->aJ H H'->∀ N:V->Hp->Prop,(∀ H'',aJ H' H''->N (f x) H'')->te (some x::σ) H' N)
  (hq:∀ D H',H D=none->aJ H H'->H' D=some (.lst (vs.map f))->Q (.ref D) H'):jC te σ Q J H:=by
 intro D hD;refine⟨fun i m ys H2=>m=vs.length-i∧i<=vs.length∧ys=(vs.take i).map f∧aJ H H2∧H2 D=some (.lst ys),⟨vs.length,rfl,b8 _,rfl,fun b o e=>?_,aE⟩,?_⟩
 ·rw[aK (aM e hD)]
  exact e
 ·rintro i m ys H2 ⟨rfl,hi,rfl,hs,hd⟩
  by_cases hlt:i<vs.length
  ·have hx:vs[i]?=some vs[i]:=aa hlt
   refine .inr ⟨rd.go i H2 hs hlt,by rw[aR,cb];omega,fun v H'=>v=f vs[i]∧aJ H2 H',fun v H' ⟨ev,hs'⟩=>⟨hs' D _ hd,vs.length-(i+1),by omega,rfl,hlt,?app,fun b o e=>?kp,aE⟩,fun y H' hy=>?stp⟩
   case app =>
    rw[ev,cn,hx,bn];rfl
   case kp =>
    rw[aK (aM e hD)];exact hs' b o (hs b o e)
   case stp =>
    obtain⟨rfl,e2⟩:=rd.yl i H2 y H' hs hy;have e4:y=vs[i]:=by rw[hx] at e2;exact (ba e2).symm
    subst e4;exact he _ _ (cz hlt) hs _ fun H'' h''=>⟨rfl,h''⟩
  ·have e:i=vs.length:=by omega
   subst e;rw[da] at hd;exact .inl ⟨rd.st H2 hs,hq D H2 hD hs hd⟩
theorem kZ {J:It}{vs:List V}{tc:TT}{te:TE}{σ:St}{H:Hp}{Q:VK}(p:V->Bool)(f:V->V)(rd:lV J H vs)(hn:vs.length<=sizeLine)
  (ht:∀ x H',x∈vs->aJ H H'->∀ N:Bool->Hp->Prop,(∀ H'',aJ H' H''->N (p x) H'')->tc (some x::σ) H' N)
  (he:∀ x H',x∈vs->p x=true->aJ H H'->∀ N:V->Hp->Prop,(∀ H'',aJ H' H''->N (f x) H'')->te (some x::σ) H' N)
  (hq:∀ D H',H D=none->aJ H H'->H' D=some (.lst ((vs.filter p).map f))->Q (.ref D) H'):iA tc te σ Q J H:=by
 intro D hD;refine⟨fun i m ys H2=>m=vs.length-i∧i<=vs.length∧ys=((vs.take i).filter p).map f∧aJ H H2∧H2 D=some (.lst ys),⟨vs.length,rfl,b8 _,rfl,fun b o e=>?_,aE⟩,?_⟩
 ·rw[aK (aM e hD)]
  exact e
 ·rintro i m ys H2 ⟨rfl,hi,rfl,hs,hd⟩
  by_cases hlt:i<vs.length
  ·have hx:vs[i]?=some vs[i]:=aa hlt
   refine .inr ⟨rd.go i H2 hs hlt,by have:=qN p vs i;rw[aR];omega,fun v H'=>v=f vs[i]∧p vs[i]=true∧aJ H2 H',fun v H' ⟨ev,hp,hs'⟩=>⟨hs' D _ hd,vs.length-(i+1),by omega,rfl,hlt,?app,fun b o e=>?kp,aE⟩,
    fun H'=>p vs[i]=false∧aJ H2 H',fun H' ⟨hp,hs'⟩=>⟨vs.length-(i+1),by omega,rfl,hlt,?skp,fun b o e=>hs' b o (hs b o e),hs' D _ hd⟩,fun y H' hy=>?stp⟩
   case app =>
    rw[ev,pS p vs i _ hx,hp,bn];rfl
   case kp =>
    rw[aK (aM e hD)];exact hs' b o (hs b o e)
   case skp =>
    rw[pS p vs i _ hx,hp];simp
   case stp =>
    obtain⟨rfl,e2⟩:=rd.yl i H2 y H' hs hy;have e4:y=vs[i]:=by rw[hx] at e2;exact (ba e2).symm
    subst e4;refine ht _ _ (cz hlt) hs _ fun H'' h''=>?_
    by_cases hp:p vs[i]=true
    ·rw[if_pos hp]
     exact he _ _ (cz hlt) hp (hs.trans h'') _ fun H3 h3=>⟨rfl,hp,h''.trans h3⟩
    ·rw[if_neg hp]
     exact⟨by simpa using hp,h''⟩
  ·have e:i=vs.length:=by omega
   subst e;rw[da] at hd;exact .inl ⟨rd.st H2 hs,hq D H2 hD hs hd⟩
def unT:V->List Nat
 | .str x=>x.cps.toList
 | _=>[]
theorem dS (l:List Nat):unT (T l)=l:=dH l
section
variable {X:Cx}
theorem tR (K:ae)(h:X.K=K):OpR X (compareOp .In) (rIn K false):=by subst h;exact Iw
theorem uR (K:ae)(h:X.K=K):OpR X (compareOp .NotIn) (rIn K true):=by subst h;exact nH
end
theorem lJ {f:List Nat->V}(ls:List (List Nat)):(ls.map T).map (fun x=>f (unT x))=ls.map f:=by
 rw[br];exact bv fun l _=>by show f (unT (T l))=f l;rw[dS]
theorem dX {p:List Nat->Bool}:∀ ls:List (List Nat),(ls.map T).filter (fun x=>p (unT x))=(ls.filter p).map T
 | []=>rfl
 | l::ls=>by
  rw[am,cu,cu,dS,dX ls];split <;> rfl
end L2
namespace SS
open PySem PyProof.Rows L2
section
variable {prog:Program}{w:World}{A:Around}{E:Value->Shared->Prop}{s:Shared}
theorem Nv {a:Addr}{Q:Bool->Shared->Prop}(hS:s.TypeIs (.ref a) "dict")(h:Q false s):wpAny (model prog w) A (Builtin.List.listLengthHint (.ref a)) Q E s:=by
 unfold Builtin.List.listLengthHint;refine wpAny_bind (wpAny_specialOf hS F.slot_dict_len.lookup ?_);generalize hid:("dict.__len__" : String)=id0
 wp_delta
 rw[show splitId id0=some ("dict", "__len__") from by subst hid;decide +kernel]
 subst hid;refine wpAny_bind (wpAny_isInstance (T := "dict") (b:=true) hS F.sub_dict_dict ?_)
 refine wpAny_ite_split (fun hab=>absurd hab (by decide)) (fun _=>?_);refine wpAny_ite_split (fun _=>?_) (fun hab=>absurd (by decide +kernel) hab);refine wpAny_bind (wpAny_typeOf hS ?_);exact wpAny_pure h
def vR (vs:List (Key×Value))(i:Nat)(v:Value):Prop:=∃ k x,vs[i]?=some (k,x)∧tK k v=true
theorem tL {h:Heap}{a:Addr}{vs:List (Key×Value)}{ep:Nat}{ob:Obj}(hD:Heap.DictAt (bD prog w) h a vs ep):Heap.DictAt (bD prog w) (h.push ob) a vs ep:=by
 obtain⟨o,es,g,r⟩:=hD;exact⟨o,es,Heap.get?_push_of_some _ g,r⟩
theorem Nw {a:Addr}{vs:List (Key×Value)}{ep:Nat}(hD:Heap.DictAt (bD prog w) s.heap a vs ep):s.TypeIs (.ref a) "dict" := by
 obtain⟨o,es,g,r⟩:=hD;exact (show Heap.DictOf (bD prog w) s.heap a vs from ⟨o,es,ep,g,r⟩).typeIs
theorem tM {a:Addr}{vs:List (Key×Value)}{ep:Nat}{R:Result->Shared->Prop}(hh:A.handled=none)(hd:(a==sysModules)=false)(hD:Heap.DictAt (bD prog w) s.heap a vs ep)(hz:vs.length<=sizeLine)(S:Addr)(res:Value)(h1:S≠a)(hSl:s.heap.get? S=some { cls:=.type "list",data:=.seq #[] })
  (hR:∀ s' acc' c',(∀ b o,b≠S->s.heap.get? b=some o->s'.heap.get? b=some o)->s'.gens=s.gens->s'.os=s.os->s'.heap.get? S=some { cls:=.type "list",dict:=none,data:=.seq acc' c',slots:=#[] }->ItemsOf (vR vs) acc' vs.length->R (.ok (.ret res)) s') :
  wpAny (model prog w) A.in1 (Builtin.List.listExtendWith (.ref S) (.ref a) res)
   (fun fin s'=>match fin with | .done f=>R (.ok f) s' | .again c'=>c'.quiet=true∧codeAny (model prog w) A c' R s') (fun e s'=>R (.error e) s') s:=by
 unfold Builtin.List.listExtendWith;refine wpAny_bind (wpAny_typeOf (Nw hD) ?_);have g1:Builtin.List.listSameRef (.ref S) (.ref a)=false:=by simp[Builtin.List.listSameRef,h1]
 have g2:(Value.type "dict" == Value.type "list")=false:=by decide
 have g3:(Value.type "dict" == Value.type "tuple")=false:=by decide
 simp only [g1,g2,g3,gq,cm,if_false];refine wpAny_bind (wpAny_pyIter_dict hd hD ?_);have hlt:=Heap.lt_size hSl;have hal:a<s.heap.objs.size:=by obtain⟨o,es,g,r⟩:=hD;exact Heap.lt_size g
 generalize hio:({ cls:=Value.type "dict_keyiterator",data:=Data.fields #[Value.ref a,Value.int 0 0,Value.int (↑vs.length) 0,Value.int (↑ep) 0] }:Obj)=io
 have hIs:s.heap.objs.size<=s.heap.objs.size:=af _;have hSI:S≠s.heap.objs.size:=a7 hlt;have haI:a≠s.heap.objs.size:=a7 hal;have kp:∀ b o,s.heap.get? b=some o->(s.heap.push io).get? b=some o:=fun b o e=>Heap.get?_push_of_some _ e
 have W:=Walks.dictKeys (prog:=prog) (w:=w) (knd:=bD prog w) (A:=A.in1) hh s.heap.objs.size a haI vs ep;have hD2:Heap.DictAt (bD prog w) (s.heap.push io) a vs ep:=tL hD;have st0:(s.heap.push io).IsKeyIter s.heap.objs.size a 0 vs.length ep∧Heap.DictAt (bD prog w) (s.heap.push io) a vs ep:=by
  refine⟨⟨io,Heap.get?_push_size _ (by rw[<- hio];rfl),?_,?_⟩,hD2⟩
  ·rw[<- hio]
  ·rw[<- hio];rfl
 have hSf:S∉[s.heap.objs.size,a]:=by simp[hSI,h1]
 refine wpAny_bind (wpAny_holding (Nv (s:={ s with heap:=s.heap.push io }) (Nw (s:={ s with heap:=s.heap.push io }) hD2) ?_));have WS:=W.toS;have last:∀ (h0:Heap) (c0:Nat),(∀ b o,b≠S->(s.heap.push io).get? b=some o->h0.get? b=some o)->h0.get? S=some { cls:=.type "list",data:=.seq #[] c0 } ->
   wpAny (model prog w) A.in1 (again (.builtin "list.extend.loop" ⟨[.ref S,.ref s.heap.objs.size,res],[]⟩))
    (fun fin s'=>match fin with | .done f=>R (.ok f) s' | .again c'=>c'.quiet=true∧codeAny (model prog w) A c' R s') (fun e s'=>R (.error e) s') { s with heap:=h0 }:=fun h0 c0 hk0 hS0=>by
  refine wpAny_pure ⟨plainId_quiet F.plain_extend_loop _,codeAny_extend_loopS WS (by omega) S hSf res vs.length 0 _ #[] c0 rfl (b8 _) ?_ hS0 (ItemsOf.nil _) fun s' acc' c' hm hS' hacc=>?_⟩
  ·exact W.frame 0 (s.heap.push io) h0 st0 fun b hb o e=>hk0 b o (fun z=>hSf (z▸hb)) e
  ·refine hR s' acc' c' (fun b o hb e=>?_) hm.gens hm.os hS' hacc
   by_cases hbI:b=s.heap.objs.size
   ·subst hbI
    exact absurd (Heap.lt_size e) (nw.mpr hIs)
   ·exact hm.heap b o (by simp[hb,hbI]) (hk0 b o hb (kp b o e))
 refine wpAny_ite_split (fun _=>?_) (fun hab=>absurd (by decide +kernel) hab);refine wpAny_bind (wpAny_rule ?_);have hSl2:(s.heap.push io).get? S=some { cls:=.type "list",data:=.seq #[] }:=kp S _ hSl
 refine wpAny_bind (m:=((do updateSeq S (fun z=>z.push .none);updateSeq S (fun z=>z.pop)):Sem Unit)) (wpAny_bind (wpAny_updateSeq (s:={ s with heap:=s.heap.push io }) hSl2 rfl ?_));have k1:=Heap.get?_update_self (Obj.mapSeq (fun z=>z.push .none)) hSl2 rfl;refine wpAny_updateSeq k1 rfl ?_;have k2:=Heap.get?_update_self (Obj.mapSeq (fun z=>z.pop)) k1 rfl;exact last _ _ (fun b o hb e=>(Heap.get?_update_other _ _ (Ne.symm hb)).trans ((Heap.get?_update_other _ _ (Ne.symm hb)).trans e)) k2
theorem zT {a:Addr}{vs:List (Key×Value)}{ep:Nat}{Q:List Value->Shared->Prop}(hh:A.handled=none)(hd:(a==sysModules)=false)(hD:Heap.DictAt (bD prog w) s.heap a vs ep)(hz:vs.length<=sizeLine)
  (hQ:∀ (s':Shared) (acc:Array Value),(∀ b o,s.heap.get? b=some o->s'.heap.get? b=some o)->s'.gens=s.gens->s'.os=s.os->ItemsOf (vR vs) acc vs.length->Q acc.toList s'):wpAny (model prog w) A (collect (.ref a)) Q E s:=by
 have hlt:a<s.heap.objs.size:=by obtain⟨o,es,g,r⟩:=hD;exact Heap.lt_size g
 unfold collect;refine wpAny_bind (wpAny_runValue (codeAny_builtin F.entry_proto_collect ?_));rw[Around.under_plainId F.plain_proto_collect];refine wpAny_bind (m:=newList []) (wpAny_newObj_type (wpAny_pure ⟨plainId_quiet F.plain_list_iadd _,codeAny_builtin F.entry_list_iadd ?_⟩));rw[Around.under_plainId F.plain_list_iadd];have hSl:(s.heap.push { cls:=.type "list",data:=.seq #[] }).get? s.heap.objs.size=some { cls:=.type "list",data:=.seq #[] }:=Heap.get?_push_size _ rfl
 have go:∀ R:Result->Shared->Prop,(∀ s' acc' c',(∀ b o,s.heap.get? b=some o->s'.heap.get? b=some o)->s'.gens=s.gens->s'.os=s.os->s'.heap.get? s.heap.objs.size=some { cls:=.type "list",dict:=none,data:=.seq acc' c',slots:=#[] }->ItemsOf (vR vs) acc' vs.length->R (.ok (.ret (.ref s.heap.objs.size))) s') ->
   wpAny (model prog w) A.in1 (Builtin.List.listExtendWith (.ref s.heap.objs.size) (.ref a) (.ref s.heap.objs.size))
    (fun fin s'=>match fin with | .done f=>R (.ok f) s' | .again c'=>c'.quiet=true∧codeAny (model prog w) A c' R s') (fun e s'=>R (.error e) s') { s with heap:=s.heap.push { cls:=.type "list",data:=.seq #[] } }:=fun R hR =>
  tM (A:=A) (s:={ s with heap:=s.heap.push { cls:=.type "list",data:=.seq #[] } }) hh hd (tL hD) hz s.heap.objs.size (.ref s.heap.objs.size) (fh hlt) hSl
   fun s' acc' c' kp g1 g2 e1 e2=>hR s' acc' c' (fun b o e=>kp b o (a7 (Heap.lt_size e)) (Heap.get?_push_of_some _ e)) g1 g2 e1 e2
 refine go (fun r s'=>match r with
  | .ok (.ret v)=>wpAny (model prog w) A (match v with
   | .ref a=>do
    match (<- load a).data with
    | .seq xs _=>pure xs.toList
    | _=>unsupported "internal:collect"
   | _=>unsupported "internal:collect") Q E s'
  | .ok _=>False
  | .error e=>E e s') fun s' acc' c' kp g1 g2 hS' e2=>?_
 refine wpAny_bind (m:=load s.heap.objs.size) (wpAny_load hS' (wpAny_pure ?_));exact hQ s' acc' kp g1 g2 e2
end
end SS
namespace L2
open PySem PyProof.Rows
def tKs (ls:List (List Nat))(v:V):List (Key×V):=ls.map fun t=>(ca (tx t),v)
section
variable {X:Cx}
theorem Fw:∀ (ls:List Str) (us:List Value),us.length=ls.length->(∀ (i:Nat) (v:Value),us[i]?=some v->∃ x t,ls[i]?=some x∧v=Value.str x t)->StrsAre us ls
 | [],[],_,_=>.nil
 | [],_::_,h,_=>nomatch h
 | _::_,[],h,_=>nomatch h
 | y::ls,u::us,h,hp=>by
  obtain⟨x,t,e1,e2⟩:=hp 0 u rfl;have e3:y=x:=by simpa using e1
  rw[e2,<- e3];exact .cons _ _ (Fw ls us (by simpa using h) fun i v e=>by simpa using hp (i+1) v (by simpa using e))
theorem Na:∀ {kvs:List (Key×V)} {vs:List (Key×Value)},KV kvs vs->vs.map (·.1)=kvs.map (·.1)
 | [],[],.nil=>rfl
 | _::_,_::_,.cons h r=>by rw[am,am,h.1,Na r]
theorem wB {ls:List (List Nat)}{kvs:List (Key×V)}{vs:List (Key×Value)}{acc:Array Value}(hk:kvs.map (·.1)=ls.map fun t=>ca (tx t))(r:KV kvs vs)(h:ItemsOf (SS.vR vs) acc vs.length):StrsAre acc.toList (ls.map tx):=by
 have e0:vs.map (·.1)=(ls.map tx).map ca:=by rw[Na r,hk,br];rfl
 have el:vs.length=ls.length:=by have:=congrArg fo e0;simpa using this
 refine Fw _ _ (by rw[bb,h.1,el,aR]) fun i v e=>?_
 obtain⟨k,x,g1,g2⟩:=h.2 i v (by rw[<- gv];exact e);have g3:(vs.map (·.1))[i]?=some k:=by rw[al,g1];rfl
 rw[e0,al] at g3
 cases g4:(ls.map tx)[i]? with
 | none=>rw[g4] at g3;cases g3
 | some y =>
  rw[g4] at g3;obtain rfl:ca y=k:=ba g3;rcases cQ g2 with ⟨j,t,q1,_⟩ | ⟨z,t,q1,q2⟩
  ·cases q1
  ·cases q1
   exact⟨y,t,rfl,q2⟩
end
open PySem.Spec
namespace SE
section
variable {prog:Program}{w:World}{A:Around}{E:Value->Shared->Prop}{s:Shared}
end
end SE
section
variable {X:Cx}
end
section
variable {X:Cx}{pins:List (Addr×Obj)}{σ:List (Option V)}{H H':Hp}{s:Shared}{h':Heap}
theorem Inv.turnedL {t':Nat}{ch:List Addr}(I:Inv X pins σ H s)(k:∀ b o,b∉ch->s.heap.get? b=some o->h'.get? b=some o)(hf:∀ b∈ch,mT X pins H b):Inv X pins σ H { s with heap:=h',toks:=t' }:=by
 have nit:∀ b u,H b=some u->b∉ch:=fun b u e z=>by rw[(hf b z).1] at e;cases e
 refine I.step (g':=s.gens) (d':=s.drawn) (ch:=ch) (fun b hb=>?_) (fun b o _ _ hc e _=>k b o hc e) (fun b o _ _ hc e _=>⟨o.slots,k b o hc e⟩) (fun _ _ _ _ n=>n)
  (fun b o hc e=>⟨o,k b o hc e⟩) (fun _ _ e=>e) (fun _ _ _ e=>e) (fun b ps e=>⟨#[],by rw[e];simp⟩) (fun m hm=>?_) (fun b u e=>?_) I.bare
 ·obtain⟨f0,f1,f2,f3,f4,f5⟩:=hf b hb
  exact⟨f3,f1,f4,f5⟩
 ·obtain⟨o,es,ep,ho,r⟩:=hm
  exact⟨o,es,ep,k _ o (fun z=>(hf _ z).2.1 rfl) ho,r⟩
 ·refine (I.hok b u e).stay (fun c v hc q=>k c v ?_ q) (fun _ q=>q) fun _ _ q=>q
  rcases hc with z | z
  ·rw[z];exact nit b u e
  ·exact nit c _ z
end
def Itz (K:ae)(a b:Addr):It :=
 ⟨fun i H=>∃ xs ys x y,SqL K H a xs∧SqL K H b ys∧xs[i]?=some x∧ys[i]?=some y,
  fun i H x H'=>∃ (T:Addr) (u v:V),x = .ref T∧H T=none∧H'=upd H T (.tup [u,v])∧(∀ xs,SqL K H a xs->xs[i]?=some u)∧∀ ys,SqL K H b ys->ys[i]?=some v,
  fun i H=>∃ xs ys,SqL K H a xs∧SqL K H b ys∧(xs.length<=i∨ys.length<=i)⟩
theorem Mb {P:Program}{w:World}{K:ae}{elts:List Expr}{x1}{pos:Pos}{a b z TI TO i1 i2:Addr}(D:ZipApart z TI TO i1 i2 a b) :
  vE P w K (.Tuple elts x1 pos) (Itz K a b) [z,TI,TO,i1,i2] z (fun i h=>IsZip h z TI TO .none∧IsPair h TI (.ref i1) (.ref i2)∧(∃ u v,IsPair h TO u v)∧h.IsListIter i1 a i∧h.IsListIter i2 b i) where
 mem:=by simp
 obj:=fun i h st c hc=>by
  obtain⟨h1,h2,⟨u,v,h3⟩,⟨o4,e4,c4,d4⟩,⟨o5,e5,c5,d5⟩⟩:=st;simp only [aw,ej,or_false] at hc;rcases hc with rfl | rfl | rfl | rfl | rfl
  ·exact⟨_,h1,fun v z=>by cases z⟩
  ·exact⟨_,h2,fun v z=>by cases z⟩
  ·exact⟨_,h3,fun v z=>by cases z⟩
  ·exact⟨_,e4,fun v z=>by rw[d4] at z;cases z⟩
  ·exact⟨_,e5,fun v z=>by rw[d5] at z;cases z⟩
 keep:=fun i h h' st k=>by
  obtain⟨h1,h2,⟨u,v,h3⟩,h4,h5⟩:=st;exact⟨k z (by simp) _ h1,k TI (by simp) _ h2,⟨u,v,k TO (by simp) _ h3⟩,h4.at fun o e=>k i1 (by simp) o e,h5.at fun o e=>k i2 (by simp) o e⟩
 item:=by
  intro X hP hw hK hc i pins s σ H E I hf st hg;subst hP hw hK;obtain⟨xs,ys,x,y,hq1,hq2,hx,hy⟩:=hg;obtain⟨its,rv,p,hz⟩:=I.list hq1;obtain⟨its2,rv2,p2,hz2⟩:=I.list hq2;obtain⟨u,hu,ru⟩:=rv.get hx;obtain⟨v,hv,rv'⟩:=rv2.get hy;obtain⟨h1,h2,⟨c1,c2,h3⟩,h4,h5⟩:=st;refine wpAny_pyNext_zip_item D h1 h2 h3 h4 h5 p.isList p2.isList (x:=u) (y:=v) (by simpa using hu) (by simpa using hv) fun h' z1 z2 z3 z4 z5 z6 z7=>?_
  refine⟨_,rfl,wpAny_letOwnedTupleGo_zip (s:={ s with heap:=h' }) z1 fun h'' y1 y2=>?_⟩;have hT:H s.heap.objs.size=none:=I.hok.fresh (af _);have I1:Inv X pins σ (upd H s.heap.objs.size (.tup [x,y])) { s with heap:=s.heap.push { cls:=.type "tuple",data:=.seq #[u,v] },toks:=s.toks } :=
   I.laid (t':=s.toks) (fun b u e=>Heap.get?_push_of_some _ e) (af _) ⟨(by show 2<=sizeLine;rw[sizeLine_eq];decide),[u,v],.cons ru (.cons rv' .nil),⟨_,Heap.get?_push_size _ rfl,rfl,_,rfl⟩⟩
  have nf:∀ c∈[z,TI,TO,i1,i2],c≠s.heap.objs.size:=fun c hc e=>by
   have lt:∃ o,s.heap.get? c=some o:=by
    obtain⟨o4,e4,_⟩:=id h4;obtain⟨o5,e5,_⟩:=id h5;simp only [aw,ej,or_false] at hc;rcases hc with rfl | rfl | rfl | rfl | rfl
    ·exact⟨_,h1⟩
    ·exact⟨_,h2⟩
    ·exact⟨_,h3⟩
    ·exact⟨_,e4⟩
    ·exact⟨_,e5⟩
   obtain⟨o,ho⟩:=lt
   have:=Heap.lt_size ho
   rw[e] at this;exact d7 _ this
  have hf1:∀ c∈[z,TI,TO,i1,i2],mT X pins (upd H s.heap.objs.size (.tup [x,y])) c:=fun c hc=>by
   obtain⟨f0,f⟩:=hf c hc;exact⟨by rw[aK (nf c hc)];exact f0,f⟩
  have I2:Inv X pins σ (upd H s.heap.objs.size (.tup [x,y])) { s with heap:=h'',toks:=s.toks } :=
   Inv.turnedL (s:={ s with heap:=s.heap.push { cls:=.type "tuple",data:=.seq #[u,v] },toks:=s.toks }) (t':=s.toks) (ch:=[z,TI,TO,i1,i2]) I1 (fun b o hb e=>by
    simp only [aw,ej,or_false,not_or] at hb;obtain⟨b1,b2,b3,b4,b5⟩:=hb;refine (y2.2 b b1).trans ?_;rcases Heap.get?_push_cases e with ⟨rfl,rfl⟩ | e
    ·exact z5
    ·exact z7 b o b1 b3 b4 b5 e) hf1
  refine⟨.ref s.heap.objs.size,_,I2,rfl,⟨s.heap.objs.size,x,y,rfl,hT,rfl,fun zs hzs=>by rw[I.list_inj hzs hq1];exact hx,fun zs hzs=>by rw[I.list_inj hzs hq2];exact hy⟩,⟨y1,?_,⟨u,v,?_⟩,?_,?_⟩,fun c hc=>(hf1 c hc).1⟩
  ·exact (y2.2 TI D.TIz).trans (z7 TI _ D.TIz D.TITO D.TIi1 D.TIi2 h2)
  ·exact (y2.2 TO D.TOz).trans z2
  ·exact z3.at fun o e=>(y2.2 i1 D.i1z).trans e
  ·exact z4.at fun o e=>(y2.2 i2 D.i2z).trans e
 done:=by
  intro X hP hw hK hc i pins s σ H E I hf st hg;subst hP hw hK;obtain⟨xs,ys,hq1,hq2,hl⟩:=hg;obtain⟨its,rv,p,hz⟩:=I.list hq1;obtain⟨its2,rv2,p2,hz2⟩:=I.list hq2;obtain⟨h1,h2,⟨c1,c2,h3⟩,h4,h5⟩:=st;have l1:=rv.length;have l2:=rv2.length;refine wpAny_pyNext_zip_end (I.ok.hd hc) D h1 h2 h3 h4 h5 p.isList p2.isList ?_ fun h' kk=>⟨rfl,?_⟩
  ·rcases hl with g | g
   ·exact .inl (by simp;omega)
   ·exact .inr (by simp;omega)
  ·exact I.turnedL (t':=s.toks) (ch:=[z,TI,TO,i1,i2]) (fun b o hb e=>by
    simp only [aw,ej,or_false,not_or] at hb;obtain⟨b1,b2,b3,b4,b5⟩:=hb;exact kk b o b1 b3 b4 b5 e) hf
 self:=fun _ _ _ _ _ st h=>wpAny_pyIter_zip st.1 h
section
variable {X:Cx}
def Xh (K:ae)(ta:TA):TI:=fun σ H R=>ta σ H fun xs H1=>∃ a b:Addr,xs=[.ref a,.ref b]∧(∃ us,SqL K H1 a us)∧(∃ vs,SqL K H1 b vs)∧R (Itz K a b) H1
theorem Sr {a b:Expr}{ta:TA}{p pos pos':Pos}{elts:List Expr}{x1}(hg:Gl X "zip")(hm:X.mg "zip" = none)(ha:PA X [a,b] ta)(hs:starEach [a,b] X.env=[(false,eval a X.env),(false,eval b X.env)]:=by rfl)(hs2:starEach [b] X.env=[(false,eval b X.env)]:=by rfl) :
  PI X (.Tuple elts x1 pos') (.Call (.Name "zip" p) [a,b] [] pos) (Xh X.K ta):=by
 intro pins s σ H R I h;refine Call_ (mF I hg hm boot_zip (fg (thn (ha pos pins s σ H _ I h) fun us s1 ⟨vs,H1,I1,r1,q1⟩=>?_) (by rw[hs,hs2]) (by rw[hs2];rfl)));obtain⟨l1,l2,e,⟨us1,hq1⟩,⟨us2,hq2⟩,q⟩:=q1;subst e
 cases r1 with
 | cons r rr =>
  cases rr with
  | cons r' rr =>
   cases rr;cases r;cases r';obtain⟨its,rv,p,hz⟩:=I1.list hq1;obtain⟨its2,rv2,p2,hz2⟩:=I1.list hq2;obtain⟨o1,ho1,_⟩:=id p.isList;obtain⟨o2,ho2,_⟩:=id p2.isList;refine call_zip_2 p.isList p2.isList fun h' z1 z2 z3 z4 z5 z6 z7=>?_
   refine wpAny_pyIter_zip (s:={ s1 with heap:=h' }) z1 ?_;have fr:∀ c,s1.heap.objs.size<=c->mT X pins H1 c:=fun c hc=>I1.fpOk hc (I1.hok.fresh hc)
   refine⟨s1.heap.objs.size+4,[s1.heap.objs.size+4,s1.heap.objs.size+2,s1.heap.objs.size+3,s1.heap.objs.size,s1.heap.objs.size+1],_,_,H1,rfl,I1.kept (t':=s1.toks) z7,Mb (zipApart_new (Heap.lt_size ho1) (Heap.lt_size ho2)),⟨z1,z2,⟨_,_,z3⟩,z4,z5⟩,fun c hc=>fr c ?_,q⟩;simp only [aw,ej,or_false] at hc;rcases hc with rfl | rfl | rfl | rfl | rfl
   ·exact il _ _
   ·exact il _ _
   ·exact il _ _
   ·exact af _
   ·exact il _ _
end
namespace ZS
section
variable {prog:Program}{w:World}{A:Around}{E:Value->Shared->Prop}{s:Shared}
end
end ZS
section
variable {X:Cx}
end
theorem on1 {α:Type}{C:List α->Prop}{us:List α}(h:us.length=1)(k:∀ a,C [a]):C us:=match us,h with | [a],_=>k a
theorem on2 {α:Type}{C:List α->Prop}{us:List α}(h:us.length=2)(k:∀ a b,C [a,b]):C us:=match us,h with | [a,b],_=>k a b
theorem on3 {α:Type}{C:List α->Prop}{us:List α}(h:us.length=3)(k:∀ a b c,C [a,b,c]):C us:=match us,h with | [a,b,c],_=>k a b c
theorem on4 {α:Type}{C:List α->Prop}{us:List α}(h:us.length=4)(k:∀ a b c d,C [a,b,c,d]):C us:=match us,h with | [a,b,c,d],_=>k a b c d
section
variable {X:Cx}
theorem Lp {st:List Stmt}:PSs X st (fun _ _ _=>False):=fun _ _ _ _ _ _ h=>h.elim
end
structure zI (N N':List Str)(sc scope:Scope)(x y2:Str):Prop where
 kind:scope.kind = .function
 cell:∀ y∈scope.names,y.2≠.cell
 names:∀ y∈scope.names,y.2 = .local->scope.names.lookup y.1=some .local
 var:scope.names.lookup x=some .local
 var2:scope.names.lookup y2=some .local
 ok:∀ y∈scope.names,y.2 = .free->sc.names.lookup y.1=some .cell∨sc.names.lookup y.1=some .free
 hd:N'[0]?=some x
 hd2:N'[1]?=some y2
 len:N'.length=N.length+2
 sub:∀ i,i<N.length->N'[i+2]?=N[i]?∨N'[i+2]?=some ("" : Str)
 noe:scope.names.lookup ("" : Str)=none
 nol:∀ y∈N'.tail.tail,scope.names.lookup y≠some .local
 nd:N'.Nodup
def yI (K:ae)(te:TE)(σ:St)(Q:VK)(J:It)(H1:Hp):Prop:=∀ D,H1 D=none->∃ W:Nat->Nat->List V->Hp->Prop,(∃ m,W 0 m [] (upd H1 D (.lst [])))∧∀ i m ys H2,W i m ys H2 ->
 (J.stop i H2∧Q (.ref D) H2)∨(J.go i H2∧ys.length<sizeLine∧∃ N:V->Hp->Prop,(∀ v H',N v H'->H' D=some (.lst ys)∧∃ m',m'<m∧W (i+1) m' (ys++[v]) (upd H' D (.lst (ys++[v])))) ∧
  ∀ y H',J.yld i H2 y H'->∃ (a:Addr) (u v:V),y = .ref a∧SqT K H' a [u,v]∧te (some u::some v::σ) H' N)
def Tb (K:ae)(wi:TI)(te:TE):TE:=fun σ H Q=>wi σ H (yI K te σ Q)
section
variable {X:Cx}{N':List Str}{scope:Scope}{x y2:Str}{px py py2 pt:Pos}{elt iter:Expr}{pos:Pos}{te:TE}{wi:TI}
theorem Ep (S:zI X.N N' X.env.scope scope x y2)(hc:X.calm=true)(he:∀ cl C s H fp,PE (bU X N' scope cl C s H fp) elt te)
  {pins:List (Addr×Obj)} {σ:St} {H:Hp} {s:Shared} {Q:VK} {E:Value->Shared->Prop} {RR:Value->Addr->Result->Shared->Prop} {it:Addr} {fp:List Addr} {tn:Nat->Heap->Prop} {J:It}
  (I:Inv X pins σ H s) (T:vE X.prog X.w X.K (.Tuple [.Name x px,.Name y2 py] 0 pt) J fp it tn) (st:tn 0 s.heap) (f2:∀ b∈fp,mT X pins H b)
  (hw:yI X.K te σ Q J H)
  (hRR:∀ D C s' H',Inv X pins σ H' s'->(∃ m,s'.heap.Ns C m)->C≠X.env.locals->(∀ y c,X.env.cells.lookup y=some c->c≠C)->H' C=none->X.s₀.heap.objs.size<=C->(∀ p∈X.pn++pins,p.1≠C)->Q (.ref D) H'->RR (.ref D) C (.ok .next) s') :
  ∃ cl,closureFor scope X.env=pure cl∧wpAny (model X.prog X.w) X.A (newList []) (fun acc s₃=>wpAny (model X.prog X.w) X.A (newFunctionEnv scope X.env.globals cl [] X.env.qual none .none (some X.env)) (fun cenv s₄ =>
   codeAny (model X.prog X.w) X.A (.compStart (.ListComp elt [⟨.Tuple [.Name x px,.Name y2 py] 0 pt,iter,[],0⟩] scope pos) 0 (.ref it) acc { cenv with scope:=relabel scope X.env }) (RR acc cenv.locals) s₄) E s₃) E s:=by
 have hfree:∀ z∈scope.names,z.2 = .free->∃ c,X.env.cells.lookup z.1=some c:=fun z hz hk=>by
  rcases S.ok z hz hk with q | q
  ·exact I.ok.has z.1 (.inl q)
  ·exact I.ok.has z.1 (.inr q)
 refine⟨_,jA hfree,?_⟩;have clS:∀ y c,(dL X.env.cells scope.names []).lookup y=some c->X.env.cells.lookup y=some c:=fun y c=>mD scope.names [] hfree fun q=>by cases q
 generalize hcl:dL X.env.cells scope.names []=cl at clS;have clH:∀ y,scope.names.lookup y=some .free->∃ c,cl.lookup y=some c:=fun y hy=>by
  rw[<- hcl];exact sS scope.names [] (eR hy)
 refine wpAny_newObj_type (wpAny_newFunctionEnv S.cell (by intro y hy;simp at hy) (fun h₁ hns₁ hsb₁=>?_) S.kind);have I3:Inv X pins σ (upd H s.heap.objs.size (.lst [])) { s with heap:=s.heap.push { cls:=.type "list",data:=.seq ([]:List Value).toArray } }:=I.lnew (t':=s.toks) .nil (b8 _)
 obtain⟨W,⟨m0,w0⟩,turn⟩:=hw s.heap.objs.size I.fresh
 dsimp only at hns₁ hsb₁ ⊢
 generalize hs3:({ s with heap:=s.heap.push { cls:=.type "list",data:=.seq ([]:List Value).toArray } }:Shared)=s3 at I3
 have hh3:s3.heap=s.heap.push { cls:=.type "list",data:=.seq ([]:List Value).toArray }:=by rw[<- hs3]
 have hsz3:s3.heap.objs.size=s.heap.objs.size+1:=by rw[hh3,Heap.size_push]
 rw[<- hh3] at hns₁ hsb₁ ⊢;have old:∀ b o,s3.heap.get? b=some o->h₁.get? b=some o:=fun b o e=>hsb₁.extBut b o (by have:=Heap.lt_size e;exact a7 this) (Heap.get?_push_of_some _ e)
 have old0:∀ b o,s.heap.get? b=some o->h₁.get? b=some o:=fun b o e=>old b o (by rw[hh3];exact Heap.get?_push_of_some _ e)
 have CneL:s3.heap.objs.size≠X.env.locals:=fh I3.lt;have CneC:∀ y c,X.env.cells.lookup y=some c->c≠s3.heap.objs.size:=fun y c e z=>by
  obtain⟨v,q⟩:=I3.cell y c e
  have:=q.lt
  rw[z] at this;exact absurd this (d7 _)
 have CneP:∀ p∈X.pn++pins,p.1≠s3.heap.objs.size:=fun p hp z=>by
  have:=Heap.lt_size (I3.pin p hp).1
  rw[z] at this;exact absurd this (d7 _)
 have CfreeH:∀ b o,s3.heap.get? b=some o->b<s3.heap.objs.size:=fun b o e=>by have:=Heap.lt_size e;exact this
 have fpLt:∀ b∈fp,b<s3.heap.objs.size:=fun b hb=>by
  obtain⟨o,e,_⟩:=T.obj 0 s.heap st b hb;rw[hsz3];exact dg (Heap.lt_size e)
 have fpD:∀ b∈fp,b≠s.heap.objs.size:=fun b hb=>by
  obtain⟨o,e,_⟩:=T.obj 0 s.heap st b hb;exact a7 (Heap.lt_size e)
 have ok':(bU X N' scope cl s3.heap.objs.size s3 (upd H s.heap.objs.size (.lst [])) fp).Ok:=by
  refine⟨I3.ok.mod,?_,I3.ok.glob,I3.ok.blt,af _,fun y z c h1 h2=>I3.ok.inj y z c (clS y c h1) (clS z c h2),fun y hy=>?_,fun y c hf=>(by cases hf),I3.ok.hd,I3.ok.frames,.inl rfl,fun b hb=>⟨a7 (fpLt b hb),fun y c e=>(f2 b hb).2.2.2.2.1 y c (clS y c e)⟩,
   fun b o e=>I3.bs b o e,a5 I3.ok.bsz I3.sz,fun b o e hb=>?_,fun b hb z=>?_,I3.stack,I3.stkFree⟩
  ·show (relabel scope X.env).kind = .function
   exact S.kind
  ·have hy':(relabel scope X.env).names.lookup y=some .cell∨(relabel scope X.env).names.lookup y=some .free:=hy
   rw[cL] at hy'
   cases q:scope.names.lookup y with
   | none=>rw[q] at hy';rcases hy' with z | z <;> cases z
   | some k =>
     have hm:=eR q
     cases k with
     | free=>exact clH y q
     | cell=>exact absurd rfl (S.cell _ hm)
     | «local» => rw[q] at hy';rcases hy' with z | z <;> simp at z
     | globalExplicit=>rw[q] at hy';rcases hy' with z | z <;> simp at z
     | globalImplicit=>rw[q] at hy';rcases hy' with z | z <;> simp at z
  ·rcases (f2 b hb).2.2.2.1 with z | z
   · exact I.ok.noex b o e z
   · exact absurd (bz (Heap.lt_size e) (a5 I.ok.bsz z)) (d7 _)
  ·rcases aw.mp (I3.stkSub b z) with q | q
   · exact (f2 b hb).2.1 q
   · exact (f2 b hb).2.2.1 q
 have fpOk':∀ {H':Hp},(∀ b∈fp,H' b=none)->∀ b∈fp,mT (bU X N' scope cl s3.heap.objs.size s3 (upd H s.heap.objs.size (.lst [])) fp) pins H' b:=fun hn b hb =>
  ⟨hn b hb,a7 (fpLt b hb),fun z=>by
   rcases aw.mp (I3.stkSub b z) with q | q
   · exact (f2 b hb).2.1 q
   · exact (f2 b hb).2.2.1 q,.inl hb,fun y c e=>(f2 b hb).2.2.2.2.1 y c (clS y c e),(f2 b hb).2.2.2.2.2⟩
 have I4:Inv (bU X N' scope cl s3.heap.objs.size s3 (upd H s.heap.objs.size (.lst [])) fp) pins (none::none::σ) (upd H s.heap.objs.size (.lst [])) { s3 with heap:=h₁,toks:=s3.toks+([]:List (Str×Value)).length }:=by
  refine⟨ok',rfl,I3.bare,Un.kept old,⟨_,hns₁,fun i y v e1 e2 vis=>?_⟩,fun y c e=>?_,?_,fun y c e=>I3.freeC y c (clS y c e),fun p hp=>?_,I3.hok.kept old,?_⟩
  ·cases i with
   | zero=>cases e2
   | succ i =>
    cases i with
    | zero=>cases e2
    | succ i =>
     have e2':σ[i]?=some (some v):=by simpa using e2
     have hi:i<X.N.length:=by rw[<- I3.len];exact (ag.mp e2').1
     have vis':(relabel scope X.env).names.lookup y=some .local∨(relabel scope X.env).names.lookup y=some .cell∨(relabel scope X.env).names.lookup y=some .free:=vis;have e1':N'[i+2]?=some y:=e1;rcases S.sub i hi with q | q
     ·rw[e1'] at q
      have hy:X.N[i]?=some y:=q.symm;have hmem:y∈N'.tail.tail:=by
       rw[ox];exact⟨i,by rw[ma,ma];exact e1'⟩
      have hfr:scope.names.lookup y=some .free:=by
       rw[cL] at vis'
       cases q2:scope.names.lookup y with
       | none=>rw[q2] at vis';rcases vis' with z | z | z <;> cases z
       | some k =>
        cases k with
        | free=>rfl
        | cell=>exact absurd rfl (S.cell _ (eR q2))
        | «local» => exact absurd q2 (S.nol y hmem)
        | globalExplicit=>rw[q2] at vis';rcases vis' with z | z | z <;> simp at z
        | globalImplicit=>rw[q2] at vis';rcases vis' with z | z | z <;> simp at z
      have hok:=S.ok (y,.free) (eR hfr) rfl;obtain⟨m,hn,hl⟩:=I3.loc;have visX:Vis X.env.scope y:=by
       rcases hok with z | z
       ·exact .inr (.inl z)
       ·exact .inr (.inr z)
      obtain⟨u,r,l⟩:=hl i y v hy e2' visX;refine⟨u,r,.inr ⟨?_,?_⟩⟩
      ·show (relabel scope X.env).names.lookup y=some .cell∨(relabel scope X.env).names.lookup y=some .free
       rw[cL,hfr,lm];by_cases hcnd:(NameKind.free==NameKind.free&&X.env.scope.kind == .function&&X.env.kindOf y==some .cell)=true
       ·left
        rw[if_pos hcnd]
       ·right
        rw[if_neg hcnd]
      ·rcases l with ⟨k,_⟩ | ⟨k,c,e,z⟩
       ·have k':X.env.scope.names.lookup y=some .local:=k
        have hok':X.env.scope.names.lookup y=some .cell∨X.env.scope.names.lookup y=some .free:=hok;rw[k'] at hok';rcases hok' with z | z <;> cases z
       ·obtain⟨c',e'⟩:=clH y hfr
        have e3:=clS y c' e';rw[e] at e3;cases e3;obtain⟨o,ho,hd⟩:=z;exact⟨c,e',o,old c o ho,hd⟩
     ·rw[e1'] at q
      cases q;rw[cL,S.noe] at vis';rcases vis' with z | z | z <;> cases z
  ·obtain⟨v,o,ho,hd⟩:=I3.cell y c (clS y c e)
   exact⟨v,o,old c o ho,hd⟩
  ·show upd H s.heap.objs.size (.lst []) s3.heap.objs.size=none
   exact I3.hok.fresh (af _)
  ·obtain⟨e,n,ne,nf,d⟩:=I3.pin p hp
   refine⟨old _ _ e,n,CneP p hp,fun z=>?_,d⟩;rcases aw.mp (I3.stkSub p.1 z) with q | q
   · exact ne q
   · exact nf q
  ·show (none::none::σ).length=N'.length
   rw[S.len,a9,a9,I3.len]
 have st4:tn 0 h₁:=T.keep 0 s.heap h₁ st fun b _ o e=>old0 b o e
 have loop:∀ s₄:Shared,s₄ = { s3 with heap:=h₁,toks:=s3.toks+([]:List (Str×Value)).length } ->
   codeAny (model X.prog X.w) X.A (.compLoop (.ListComp elt [⟨.Tuple [.Name x px,.Name y2 py] 0 pt,iter,[],0⟩] scope pos) 0 (.ref it) (.ref s.heap.objs.size) (compEnvC scope cl s3.heap.objs.size X.env)) (RR (.ref s.heap.objs.size) s3.heap.objs.size) s₄:=by
  rintro s₄ rfl;refine kY (fun n s'=>∃ i v0 v1 ys H',Inv (bU X N' scope cl s3.heap.objs.size s3 (upd H s.heap.objs.size (.lst [])) fp) pins (v0::v1::σ) H' s'∧tn i s'.heap∧(∀ b∈fp,H' b=none)∧W i n ys H') ?_ m0
   ⟨0,none,none,[],_,I4,st4,fun b hb=>by rw[aK (fpD b hb)];exact (f2 b hb).1,w0⟩
  rintro n s5 ⟨i,v0,v1,ys,H5,I5,st5,fr5,w5⟩;rcases turn i n ys H5 w5 with ⟨stop,qn⟩ | ⟨go,hz,N,hN,step⟩
  ·refine thn (T.done (bU X N' scope cl s3.heap.objs.size s3 (upd H s.heap.objs.size (.lst [])) fp) rfl rfl rfl hc i pins s5 (v0::v1::σ) H5 (fun _ _=>False) I5 (fpOk' fr5) st5 stop) fun r s6 ⟨hr,I6⟩=>?_
   subst hr;have hch:∀ b∈fp,(b∈X.ex∨X.s₀.heap.objs.size<=b)∧b≠X.env.locals∧(∀ x c,X.env.cells.lookup x=some c->c≠b)∧∀ p∈X.pn++pins,p.1≠b:=fun b hb =>
     ⟨(f2 b hb).2.2.2.1,(f2 b hb).2.1,(f2 b hb).2.2.2.2.1,(f2 b hb).2.2.2.2.2⟩
   have I7:Inv X pins σ H5 s6:=I3.call' (ch:=fp) I6.os I6.base I6.hok I6.bare hch;obtain⟨m,hm,_⟩:=I6.loc;exact hRR s.heap.objs.size s3.heap.objs.size s6 H5 I7 ⟨m,hm⟩ CneL CneC I6.free (a5 I3.sz (af _)) CneP qn
  ·refine thn (T.item (bU X N' scope cl s3.heap.objs.size s3 (upd H s.heap.objs.size (.lst [])) fp) rfl rfl rfl hc i pins s5 (v0::v1::σ) H5 (fun _ _=>False) I5 (fpOk' fr5) st5 go) fun r s6 ⟨u,hr,h6⟩=>?_
   subst hr;refine thn h6 fun _ s7 ⟨y,H7,I7,r7,y7,st7,fr7⟩=>?_
   have I7':=I7.pinned (fpOk' fr7) (T.obj _ _ st7);obtain⟨aT,u0,u1,e7,hT7,step7⟩:=step y H7 y7;have I7c:Inv (bU X N' scope cl s3.heap.objs.size s3 (upd H s.heap.objs.size (.lst [])) fp) (pins++mI fp s7.heap) (v0::v1::σ) H7 s7:=I7';refine thn ((show PG _ _ _ from Oj (X:=bU X N' scope cl s3.heap.objs.size s3 (upd H s.heap.objs.size (.lst [])) fp) (es:=[.Name x px,.Name y2 py]) (n:=2) hc
     (nJ (cG (i:=0) S.nd S.hd (.inl (lookup_relabel_local S.var)) (.inr (lookup_relabel_local S.var))) (nJ (cG (i:=1) S.nd S.hd2 (.inl (lookup_relabel_local S.var2)) (.inr (lookup_relabel_local S.var2))) Ga)))
     _ s7 (v0::v1::σ) H7 y u (fun σ2 H2=>σ2=some u0::some u1::σ∧H2=H7) I7c r7 ⟨aT,[u0,u1],e7,hT7,rfl,u0,[u1],rfl,u1,[],rfl,rfl,rfl,rfl⟩) fun _ s8 ⟨σ8,H8,I8,e8,e8'⟩=>?_
   subst e8 e8';have I8':Inv (bU X N' scope cl s3.heap.objs.size s3 (upd H s.heap.objs.size (.lst [])) fp) (pins++mI fp s7.heap) (some u0::some u1::σ) H8 s8:=I8;refine thn (he cl s3.heap.objs.size s3 (upd H s.heap.objs.size (.lst [])) fp _ s8 (some u0::some u1::σ) _ N I8' step7) fun w s9 ⟨v,H9,I9,r9,q9⟩=>?_
   obtain⟨hD9,m',hm,w9⟩:=hN v H9 q9;refine thn (jM _ s9 (some u0::some u1::σ) H9 (.ref s.heap.objs.size) [v] (.ref s.heap.objs.size) [w] (fun z H10=>z = .non∧H10=upd H9 s.heap.objs.size (.lst (ys++[v]))) I9 rfl (.cons r9 .nil) ⟨s.heap.objs.size,ys,v,rfl,rfl,hD9,hz,rfl,rfl⟩) fun _ s10 ⟨z,H10,I10,_,ez,e10⟩=>?_
   subst e10;refine⟨m',hm,i+1,some u0,some u1,ys++[v],_,I10.unpinned,T.keep _ _ _ st7 fun b hb o e=>(I10.pin (b,o) (bu _ (bu _ (eS hb e)))).1,fun b hb=>?_,w9⟩;obtain⟨o,e,d⟩:=T.obj _ _ st7 b hb;exact (I10.pin (b,o) (bu _ (bu _ (eS hb e)))).2.1
 exact codeAny_compStart_list (loop _ (by rw[<- hs3])) (T.self X.A 0 _ _ _ st4 (loop _ (by rw[<- hs3])))
end
theorem Mr {K:ae}{a b:Addr}{xs ys:List V}{te:TE}{σ:St}{H:Hp}{Q:VK}(f:V->V->V)(hx:SqL K H a xs)(hy:SqL K H b ys)(he:xs.length=ys.length)(hn:xs.length<=sizeLine)
  (hs:∀ (i:Nat) (x y:V) (H':Hp),xs[i]?=some x->ys[i]?=some y->aJ H H'->∀ N:V->Hp->Prop,(∀ H'',aJ H' H''->N (f x y) H'')->te (some x::some y::σ) H' N)
  (hq:∀ D H',H D=none->aJ H H'->H' D=some (.lst (ny f xs ys))->Q (.ref D) H'):yI K te σ Q (Itz K a b) H:=by
 have hzl:(ny f xs ys).length=xs.length:=by rw[pi,<- he,Nat.min_self]
 intro D hD;refine⟨fun i m zs H2=>m=xs.length-i∧i<=xs.length∧zs=(ny f xs ys).take i∧aJ H H2∧H2 D=some (.lst zs),⟨xs.length,rfl,b8 _,rfl,fun b o e=>?_,aE⟩,?_⟩
 ·rw[aK (aM e hD)]
  exact e
 ·rintro i m zs H2 ⟨rfl,hi,rfl,s2,hd⟩
  by_cases hlt:i<xs.length
  ·have h1:xs[i]?=some xs[i]:=aa hlt
   have h2:ys[i]?=some (ys[i]'(by omega)):=aa (by omega);refine .inr ⟨⟨xs,ys,_,_,s2.seq hx,s2.seq hy,h1,h2⟩,by rw[cb];omega,fun v H'=>v=f xs[i] (ys[i]'(by omega))∧aJ H2 H',fun v H' ⟨ev,hs'⟩=>⟨hs' D _ hd,xs.length-(i+1),by omega,rfl,hlt,?app,fun b o e=>?kp,aE⟩,fun y H' hy'=>?stp⟩
   case app=>rw[ev,cn,kx,h1,h2];rfl
   case kp =>
    rw[aK (aM e hD)];exact hs' b o (s2 b o e)
   case stp =>
    obtain⟨T,u,v,rfl,hT,rfl,y1,y3⟩:=hy';have t2:aJ H2 (upd H2 T (.tup [u,v])):=fun b o e=>by rw[aK (aM e hT)];exact e
    obtain rfl:=ba ((y1 xs (s2.seq hx)).symm.trans h1);obtain rfl:=ba ((y3 ys (s2.seq hy)).symm.trans h2);exact⟨T,_,_,rfl,SqT.of aE,hs i _ _ _ h1 h2 (s2.trans t2) _ fun H'' h''=>⟨rfl,t2.trans h''⟩⟩
  ·have e:i=xs.length:=by omega
   subst e;rw[cq (by omega)] at hd;exact .inl ⟨⟨xs,ys,s2.seq hx,s2.seq hy,.inl (af _)⟩,hq D H2 hD s2 hd⟩
section
variable {X:Cx}{pins:List (Addr×Obj)}{σ:St}{H H':Hp}{s s':Shared}{a:Addr}{cls:Value}{E:Value->Shared->Prop}
end
section
variable {X:Cx}{pins:List (Addr×Obj)}{σ:St}{H H':Hp}{s s':Shared}{a:Addr}{cls:Value}
end
section
variable {P:Program}{w:World}{K:ae}{mg:Str->Option Value}{base:Heap}{N:List Str}{qual:Str}{scope:Scope}{f:Addr}{cdv:Value}{A:Around}{outer:List Env}{s:Shared}{H:Hp}{E:XK}
end
section
variable {X:Cx}
end
section
variable {prog:Program}{w:World}{A:Around}{E:Value->Shared->Prop}{h:Heap}{g:Array GenState}{d:Drawn}{t:Nat}{os:OsState}
variable {nm q:Str}{Cl Ns:Addr}{bs tl:List Value}{hdct:Bool}{sn:List Str}{sub:List Value}{ab:Bool}{col:Option Bool}{dd:Option Addr}{k0 k1 k2 k3 k5:Option Value}
end
section
variable {M:Model}{A:Around}{E:Value->Shared->Prop}{s:Shared}{env:Env}
variable {nm q:Str}{Cl Ns:Addr}{bs tl:List Value}{hdct:Bool}{sn:List Str}{sub:List Value}{ab:Bool}{col:Option Bool}{dd:Option Addr}{k0 k1 k2 k3 k5:Option Value}{ni:String}
end
section
variable {X:Cx}
end
open PySem.Builtin PySem.Builtin.ObjectAttr
section
variable {prog:Program}{w:World}{A:Around}{E:Value->Shared->Prop}{K:ae}{C f a x0:Addr}{F:Str}{v:Value}{s:Shared}
end
section
variable {X:Cx}
end
end L2
namespace L2
open PySem PySem.Spec PyProof.Rows
section
variable {X:Cx}{pins:List (Addr×Obj)}{σ:St}{H:Hp}{s:Shared}{a C x0:Addr}{E:Value->Shared->Prop}{od:Option Addr}
end
section
variable {X:Cx}
end
namespace EX
open PySem.W PySem.Calls PySem.Builtin PySem.Builtin.ObjectAttr PySem.Builtin.Getset_descriptor
variable {prog:Program}{w:World}{A:Around}{E:Value->Shared->Prop}{s:Shared}{K:ae}{a C:Addr}
end EX
section
variable {X:Cx}
end
def Ite (K:ae)(a:Addr):It :=
 ⟨fun i H=>∃ xs x,SqL K H a xs∧xs[i]?=some x,
  fun i H x H'=>∃ (T:Addr) (u:V),x = .ref T∧H T=none∧H'=upd H T (.tup [.int (i:Nat),u])∧∀ xs,SqL K H a xs->xs[i]?=some u,
  fun i H=>∃ xs,SqL K H a xs∧xs.length<=i⟩
theorem Kc {P:Program}{w:World}{K:ae}{elts:List Expr}{x1}{pos:Pos}{a e it:Addr}(hne:e≠it) :
  vE P w K (.Tuple elts x1 pos) (Ite K a) [e,it] e (fun i h=>(∃ old,IsEnum h e it i old)∧h.IsListIter it a i) where
 mem:=by simp
 obj:=fun i h st c hc=>by
  obtain⟨⟨old,h1⟩,⟨o4,e4,c4,d4⟩⟩:=st;simp only [aw,ej,or_false] at hc;rcases hc with rfl | rfl
  ·exact⟨_,h1,fun v z=>by cases z⟩
  ·exact⟨_,e4,fun v z=>by rw[d4] at z;cases z⟩
 keep:=fun i h h' st k=>by
  obtain⟨⟨old,h1⟩,h4⟩:=st;exact⟨⟨old,k e (by simp) _ h1⟩,h4.at fun o e=>k it (by simp) o e⟩
 item:=by
  intro X hP hw hK hc i pins s σ H E I hf st hg;subst hP hw hK;obtain⟨xs,x,hq1,hx⟩:=hg;obtain⟨its,rv,p,hz⟩:=I.list hq1;obtain⟨u,hu,ru⟩:=rv.get hx;obtain⟨⟨old,h1⟩,h4⟩:=st;refine wpAny_pyNext_enum_item h1 h4 p.isList (x:=u) (by simpa using hu) hne fun h' z1 z2 z3 z4 z5=>?_
  refine⟨_,rfl,wpAny_letOwnedTupleGo_enum (s:={ s with heap:=h',toks:=s.toks+1 }) z1 fun h'' y1 y2=>?_⟩;have hT:H s.heap.objs.size=none:=I.hok.fresh (af _);have I1:Inv X pins σ (upd H s.heap.objs.size (.tup [.int (i:Nat),x])) { s with heap:=s.heap.push { cls:=.type "tuple",data:=.seq #[.int i s.toks,u] },toks:=s.toks+1 } :=
   I.laid (t':=s.toks+1) (fun b u e=>Heap.get?_push_of_some _ e) (af _) ⟨(by show 2<=sizeLine;rw[sizeLine_eq];decide),[.int i s.toks,u],.cons ⟨_,rfl⟩ (.cons ru .nil),⟨_,Heap.get?_push_size _ rfl,rfl,_,rfl⟩⟩
  have nf:∀ c∈[e,it],c≠s.heap.objs.size:=fun c hc e=>by
   have lt:∃ o,s.heap.get? c=some o:=by
    obtain⟨o4,e4,_⟩:=id h4;simp only [aw,ej,or_false] at hc;rcases hc with rfl | rfl
    ·exact⟨_,h1⟩
    ·exact⟨_,e4⟩
   obtain⟨o,ho⟩:=lt
   have:=Heap.lt_size ho
   rw[e] at this;exact d7 _ this
  have hf1:∀ c∈[e,it],mT X pins (upd H s.heap.objs.size (.tup [.int (i:Nat),x])) c:=fun c hc=>by
   obtain⟨f0,f⟩:=hf c hc;exact⟨by rw[aK (nf c hc)];exact f0,f⟩
  have I2:Inv X pins σ (upd H s.heap.objs.size (.tup [.int (i:Nat),x])) { s with heap:=h'',toks:=s.toks+1 } :=
   Inv.turnedL (s:={ s with heap:=s.heap.push { cls:=.type "tuple",data:=.seq #[.int i s.toks,u] },toks:=s.toks+1 }) (t':=s.toks+1) (ch:=[e,it]) I1 (fun b o hb e=>by
    simp only [aw,ej,or_false,not_or] at hb;obtain⟨b1,b2⟩:=hb;refine (y2.2 b b1).trans ?_;rcases Heap.get?_push_cases e with ⟨rfl,rfl⟩ | e
    ·exact z3
    ·exact z5 b o b1 b2 e) hf1
  refine⟨.ref s.heap.objs.size,_,I2,rfl,⟨s.heap.objs.size,x,rfl,hT,rfl,fun zs hzs=>by rw[I.list_inj hzs hq1];exact hx⟩,⟨⟨_,by exact_mod_cast y1⟩,?_⟩,fun c hc=>(hf1 c hc).1⟩;exact z2.at fun o e=>(y2.2 it (Ne.symm hne)).trans e
 done:=by
  intro X hP hw hK hc i pins s σ H E I hf st hg;subst hP hw hK;obtain⟨xs,hq1,hl⟩:=hg;obtain⟨its,rv,p,hz⟩:=I.list hq1;obtain⟨⟨old,h1⟩,h4⟩:=st;have l1:=rv.length;refine wpAny_pyNext_enum_end (I.ok.hd hc) h1 h4 p.isList (by simp;omega) fun h' kk=>⟨rfl,?_⟩
  exact I.turnedL (t':=s.toks) (ch:=[e,it]) (fun b o hb e=>by
   simp only [aw,ej,or_false,not_or] at hb;exact kk b o hb.2 e) hf
 self:=fun A i s Q E st h=>wpAny_pyIter_enum st.1.choose_spec h
section
variable {X:Cx}
def Vz (K:ae)(ta:TA):TI:=fun σ H R=>ta σ H fun xs H1=>∃ a:Addr,xs=[.ref a]∧(∃ us,SqL K H1 a us)∧R (Ite K a) H1
theorem Qm {a:Expr}{ta:TA}{p pos pos':Pos}{elts:List Expr}{x1}(hg:Gl X "enumerate")(hm:X.mg "enumerate" = none)(ha:PA X [a] ta)(hs:starEach [a] X.env=[(false,eval a X.env)]:=by rfl) :
  PI X (.Tuple elts x1 pos') (.Call (.Name "enumerate" p) [a] [] pos) (Vz X.K ta):=by
 intro pins s σ H R I h;refine Call_ (mF I hg hm boot_enumerate (fg (thn (ha pos pins s σ H _ I h) fun us s1 ⟨vs,H1,I1,r1,q1⟩=>?_) (by rw[hs];rfl) (by rfl)));obtain⟨l1,e,⟨us1,hq1⟩,q⟩:=q1;subst e
 cases r1 with
 | cons r rr =>
  cases rr;cases r;obtain⟨its,rv,p,hz⟩:=I1.list hq1;refine call_enumerate_list p.isList fun h' z1 z2 z3 z4=>?_
  refine wpAny_pyIter_enum (s:={ s1 with heap:=h' }) z1 ?_;have fr:∀ c,s1.heap.objs.size<=c->mT X pins H1 c:=fun c hc=>I1.fpOk hc (I1.hok.fresh hc)
  refine⟨s1.heap.objs.size+1,[s1.heap.objs.size+1,s1.heap.objs.size],_,_,H1,rfl,I1.kept (t':=s1.toks) z4,Kc (Nat.succ_ne_self _),⟨⟨_,z1⟩,z2⟩,fun c hc=>fr c ?_,q⟩;simp only [aw,ej,or_false] at hc;rcases hc with rfl | rfl
  ·exact il _ _
  ·exact af _
theorem Oq {K:ae}{a:Addr}{xs:List V}{g:TG}{tb:TS}{D:kK}{σ:St}{H:Hp}(Pv:Nat->St->Hp->Prop)(h0:Pv 0 σ H)(hl:∀ i σ H,i<=xs.length->Pv i σ H->SqL K H a xs)
  (hs:∀ i x T σ H,xs[i]?=some x->H T=none->Pv i σ H->g (.ref T) σ (upd H T (.tup [.int (i:Nat),x])) fun σ2 H2=>tb { D with nx:=Pv (i+1),ct:=Pv (i+1),bk:=D.nx } σ2 H2) (hd:∀ σ H,Pv xs.length σ H->D.nx σ H) :
  ∃ W:Nat->Nat->St->Hp->Prop,(∃ m,W 0 m σ H)∧∀ i m σ H,W i m σ H ->
   ((Ite K a).stop i H∧D.nx σ H)∨((Ite K a).go i H∧∃ N:St->Hp->Prop,(∀ σ' H',N σ' H'->∃ m',m'<m∧W (i+1) m' σ' H')∧∀ x H',(Ite K a).yld i H x H'->g x σ H' fun σ2 H2=>tb { D with nx:=N,ct:=N,bk:=D.nx } σ2 H2):=by
 refine⟨fun i m σ H=>m=xs.length-i∧i<=xs.length∧Pv i σ H,⟨xs.length,by simp,b8 _,h0⟩,?_⟩;rintro i m σ H ⟨rfl,hi,p⟩;have q1:=hl i σ H hi p;by_cases hlt:i<xs.length
 ·refine .inr ⟨⟨xs,xs[i],q1,by simp[hlt]⟩,Pv (i+1),fun σ' H' p'=>⟨xs.length-(i+1),by omega,rfl,hlt,p'⟩,fun x H' y=>?_⟩
  obtain⟨T,u,rfl,hT,rfl,y1⟩:=y;exact hs i u T σ _ (y1 xs q1) hT p
 ·have e:i=xs.length:=by omega
  subst e;exact .inl ⟨⟨xs,q1,af _⟩,hd σ H p⟩
end
def Bg (i:Int):Prop:=i.natAbs<2 ^ 8000
theorem Bg.bits {i:Int}(h:Bg i):Builtin.Int.intBits i<=8000:=by
 unfold Builtin.Int.intBits;split
 ·exact b8 _
 ·rename_i hn
  have h0:i.natAbs≠0:=fun z=>hn (by rw[qf.mp z];rfl)
  exact (Nat.log2_lt h0).mpr h
theorem Bg.mulOk {i j:Int}(hi:Bg i)(hj:Bg j):IntMulOk i j:=by
 unfold IntMulOk Builtin.Int.intTooBig;have h1:=hi.bits;have h2:=hj.bits;have h3:(16000:Int)<=bitsLine:=by decide +kernel
 have h4:decide (((Builtin.Int.intBits i:Nat):Int)+((Builtin.Int.intBits j:Nat):Int)>(bitsLine:Int))=false:=decide_eq_false (by omega);rw[h4,jk];exact ak
theorem Bg.noPylong {i j:Int}(hj:Bg j):Builtin.divisionGoesByPylong i j=false:=by
 unfold Builtin.divisionGoesByPylong
 have:¬ ((if (j==0)=true then 0 else j.natAbs.log2/30+1)>300):=by
  split
  ·decide
  ·rename_i hn
   have h0:j.natAbs≠0:=fun z=>hn (by rw[qf.mp z];rfl)
   have:=(Nat.log2_lt h0).mpr hj
   omega
 dsimp only
 rw[decide_eq_false this];rfl
section
variable {X:Cx}
theorem fA:OpR X (binaryOp .Mult) (rI (fun i j=>Bg i∧Bg j) fun i j=>.int (i*j)):=opI fun _ _ _ _ _ _ _ hc q=>mul_int q (hc.1.mulOk hc.2)
theorem Ny:OpR X (binaryOp .FloorDiv) (rI (fun _ j=>0<j∧Bg j) fun i j=>.int (i/j)):=opI fun i j _ _ _ _ _ hc q=>by
 have h1:(0:Int)<j:=hc.1;exact floordiv_int (by omega) (by rw[l6 i (by omega)];exact q) (.inl hc.2.noPylong)
end
section
variable {X:Cx}{N':List Str}{scope:Scope}{x y2:Str}{px py py2 pt:Pos}{elt iter:Expr}{pos:Pos}{te:TE}{wi:TI}
theorem Lw (S:zI X.N N' X.env.scope scope x y2)(hc:X.calm=true)(hi:PI X (.Tuple [.Name x px,.Name y2 py2] 0 pt) iter wi)(he:∀ cl C s H fp,PE (bU X N' scope cl C s H fp) elt te)
  (hs:∀ x,foldedSetIterable iter X.env x=pure x:=by intro _;rfl):PE X (.ListComp elt [⟨.Tuple [.Name x px,.Name y2 py2] 0 pt,iter,[],0⟩] scope pos) (Tb X.K wi te):=by
 intro pins s σ H Q I h;rw[eval_ListComp];have hfree:∀ z∈scope.names,z.2 = .free->∃ c,X.env.cells.lookup z.1=some c:=fun z hz hk=>by
  rcases S.ok z hz hk with q | q
  ·exact I.ok.has z.1 (.inl q)
  ·exact I.ok.has z.1 (.inr q)
 refine wpAny_comprehension_free (use:=none) rfl hs (jA hfree) S.kind S.names (thn (hi pins s σ H _ I h) fun xv s1 h1=>thn h1 fun itv s2 h2=>?_);obtain⟨it,fp,tn,J,H2,e,I2,T,st2,f2,hw⟩:=h2;subst e;obtain⟨cl,hcl,hrun⟩:=Ep (py:=py2) (pt:=pt) (elt:=elt) (iter:=iter) (pos:=pos) (px:=px) (E:=X.xe) (RR:=fun acc C=>compPost (model X.prog X.w) X.A X.xe none (EP X pins σ Q) acc C) S hc he I2 T st2 f2 hw (fun D C s' H' I' ⟨m,hm⟩ n1 n2 n3 n4 n5 q =>
  ⟨m,hm,fun h' hsb=>⟨.ref D,H',I'.turned (it:=C) (t':=s'.toks) (fun b o hb e=>(hsb.2 b hb).trans e) n3 n1 (.inr n4) n2 n5,rfl,q⟩⟩)
 have ecl:(pure (dL X.env.cells scope.names []):Sem (List (Str×Addr)))=pure cl:=(jA hfree).symm.trans hcl;have ecl':dL X.env.cells scope.names []=cl:=by
  injection ecl
 rw[ecl'];exact hrun
end
section
variable {X:Cx}
end
end L2
namespace SR
open PySem PyProof.Rows PySem.Spec
section
variable {prog:Program}{w:World}{A:Around}{E:Value->Shared->Prop}{s:Shared}
end
end SR
namespace L2
open PySem PyProof.Rows PySem.Spec
section
variable {X:Cx}
end
def tupIs (K:ae)(a:Addr)(ns:List Int):Bool :=
 match K.lookup a with
 | some o=>match o.cls,o.data with
  | .type "tuple",.seq its _=>decide (its.size<=1000)&&(its.toList.map fun v=>match v with | .int i _=>some i | _=>none)==ns.map some
  | _,_=>false
 | none=>false
theorem SqT.tupIs {K:ae}{a:Addr}{ns:List Int}{H:Hp}(h:tupIs K a ns=true):SqT K H a (ns.map V.int):=by
 unfold L2.tupIs at h
 cases hk:K.lookup a with
 | none=>rw[hk] at h;cases h
 | some o =>
  rw[hk] at h
  dsimp only at h
  split at h
  ·rename_i its n hc hd
   rw[cr,decide_eq_true_iff,beq_iff_eq] at h;refine .inr ⟨o,its,n,hk,hc,hd,a5 h.1 (by rw[sizeLine_eq];decide),?_⟩;have key:∀ (ns:List Int) (us:List Value),(us.map fun v=>match v with | .int i _=>some i | _=>none)=ns.map some->bR (ns.map V.int) us:=fun ns=>by
    induction ns with
    | nil =>
     intro us hu
     cases us with
     | nil=>exact .nil
     | cons u us=>cases hu
    | cons i ns ih =>
     intro us hu
     cases us with
     | nil=>cases hu
     | cons u us =>
      rw[am,am] at hu;obtain⟨h1,h2⟩:=jt hu;refine .cons ?_ (ih us h2);split at h1
      ·rename_i j t
       obtain rfl:=ba h1;exact⟨_,rfl⟩
      ·cases h1
   exact key ns _ h.2
  ·cases h
section
variable {X:Cx}
end
def dZ (K:ae)(H:Hp)(as:List Addr)(M:List (List Int)):Prop:=as.length=M.length∧∀ (i:Nat) (a:Addr) (r:List Int),as[i]?=some a->M[i]?=some r->SqL K H a (r.map V.int)
section
variable {K:ae}{H G:Hp}{as:List Addr}{M:List (List Int)}
theorem dZ.on (h:dZ K H as M)(s:aJ H G):dZ K G as M:=⟨h.1,fun i a r e1 e2=>s.seq (h.2 i a r e1 e2)⟩
theorem dZ.at (h:dZ K H as M){i:Nat}{v:V}(hv:(as.map V.ref)[i]?=some v):∃ (a:Addr) (r:List Int),v = .ref a∧M[i]?=some r∧SqL K H a (r.map V.int):=by
 rw[al] at hv;obtain⟨a,ha,rfl⟩:=bi.mp hv;have hi:=(ag.mp ha).1;obtain⟨r,hr⟩:∃ r,M[i]?=some r:=⟨_,aa (by rw[<- h.1];exact hi)⟩;exact⟨a,r,rfl,hr,h.2 i a r ha hr⟩
theorem dZ.sub (h:dZ K H as M)(f:Nat->Nat)(bs:List Addr)(N:List (List Int))(hl:bs.length=N.length)(h1:∀ i b,bs[i]?=some b->as[f i]?=some b)(h2:∀ i r,N[i]?=some r->M[f i]?=some r):dZ K H bs N:=⟨hl,fun i a r e1 e2=>h.2 (f i) a r (h1 i a e1) (h2 i r e2)⟩
theorem dZ.erase (h:dZ K H as M)(p:Nat):dZ K H (as.eraseIdx p) (M.eraseIdx p) :=
 h.sub (fun i=>if i<p then i else i+1) _ _ (by rw[g8,g8,h.1]) (fun i b e=>by rw[kj] at e;split <;> simp_all) (fun i b e=>by rw[kj] at e;split <;> simp_all)
end
theorem Wl {K:ae}{J:It}{as:List Addr}{M:List (List Int)}{te:TE}{σ:St}{H:Hp}{Q:VK}(g:List Int->List Int)(rd:lV J H (as.map V.ref))(hR:dZ K H as M)(hn:as.length<=sizeLine)
  (he:∀ a r H',r∈M->SqL K H' a (r.map V.int)->aJ H H'->∀ N:V->Hp->Prop,(∀ c H'',aJ H' H''->(H' c=none)->H'' c=some (.lst ((g r).map V.int))->N (.ref c) H'')->te (some (.ref a)::σ) H' N)
  (hq:∀ D bs H',H D=none->aJ H H'->H' D=some (.lst (bs.map V.ref))->(∀ b∈bs,b≠D)->dZ K H' bs (M.map g)->Q (.ref D) H'):jC te σ Q J H:=by
 intro D hD;refine⟨fun i m ys H2=>m=as.length-i∧i<=as.length∧aJ H H2∧H2 D=some (.lst ys)∧∃ bs:List Addr,ys=bs.map V.ref∧bs.length=i∧∀ (j:Nat) (b:Addr) (r:List Int),bs[j]?=some b->M[j]?=some r->b≠D∧H2 b=some (.lst ((g r).map V.int)),⟨as.length,rfl,b8 _,fun b o e=>?_,aE,[],rfl,rfl,fun j b r e=>by simp at e⟩,?_⟩
 ·rw[aK (aM e hD)]
  exact e
 ·rintro i m ys H2 ⟨rfl,hi,hs,hd,bs,rfl,hl,hb⟩
  by_cases hlt:i<as.length
  ·have hlt':i<(as.map V.ref).length:=by rw[aR];exact hlt
   obtain⟨a,r,ha,hr,_⟩:=hR.at (i:=i) (v:=(as.map V.ref)[i]) (aa hlt');refine .inr ⟨rd.go i H2 hs hlt',by rw[aR];omega,fun v H'=>aJ H2 H'∧∃ c,v = .ref c∧c≠D∧H' c=some (.lst ((g r).map V.int)),fun v H' ⟨hs',c,ev,hcD,hc⟩=>⟨hs' D _ hd,as.length-(i+1),by omega,rfl,hlt,fun b o e=>?kp,aE,bs++[c],?app,by rw[aq,hl];rfl,fun j b r' e1 e2=>?la⟩,fun y H' hy=>?stp⟩
   case app =>
    rw[ev,bn];rfl
   case kp =>
    rw[aK (aM e hD)];exact hs' b o (hs b o e)
   case la =>
    by_cases hj:j<bs.length
    ·rw[fq hj] at e1
     obtain⟨h1,h2⟩:=hb j b r' e1 e2;exact⟨h1,by rw[aK h1];exact hs' b _ h2⟩
    ·have hj':j=bs.length:=by
      have:=(ag.mp e1).1
      rw[aq,b7] at this;omega
     subst hj';rw[fi (af _),qo] at e1;obtain rfl:c=b:=ba e1;rw[hl,hr] at e2;obtain rfl:=ba e2;exact⟨hcD,by rw[aK hcD];exact hc⟩
   case stp =>
    obtain⟨rfl,e2⟩:=rd.yl i H2 y H' hs hy;obtain⟨a2,r2,rfl,hr2,hs2⟩:=(hR.on hs).at e2;rw[hr] at hr2;obtain rfl:=ba hr2;exact he a2 r _ (ay hr) hs2 hs _ fun c H'' s'' hc hc2=>⟨s'',c,rfl,fun z=>(by rw[z,hd] at hc;cases hc),hc2⟩
  ·have e:i=as.length:=by omega
   have hst:=rd.st H2 hs;rw[aR] at hst;subst e;have hlM:=hR.1;refine .inl ⟨hst,hq D bs H2 hD hs hd (fun b hb'=>?_) ⟨by rw[hl,aR,hlM],fun j b r e1 e2=>?_⟩⟩
   ·obtain⟨j,hj⟩:=g9 hb'
    have hjl:=(ag.mp hj).1;exact (hb j b _ hj (aa (show j<M.length by omega))).1
   ·rw[al] at e2
    obtain⟨r',hr',rfl⟩:=bi.mp e2;exact SqL.of (hb j b r' e1 hr').2
theorem Vu {K:ae}{J:It}{as:List Addr}{M:List (List Int)}{te:TE}{σ:St}{H:Hp}{Q:VK}(g:List Int->Int)(rd:lV J H (as.map V.ref))(hR:dZ K H as M)(hn:as.length<=sizeLine)
  (he:∀ a r H',r∈M->SqL K H' a (r.map V.int)->aJ H H'->∀ N:V->Hp->Prop,(∀ H'',aJ H' H''->N (.int (g r)) H'')->te (some (.ref a)::σ) H' N)
  (hq:∀ D H',H D=none->aJ H H'->H' D=some (.lst ((M.map g).map V.int))->Q (.ref D) H'):jC te σ Q J H:=by
 intro D hD;have hlM:=hR.1;refine⟨fun i m ys H2=>m=as.length-i∧i<=as.length∧aJ H H2∧H2 D=some (.lst ys)∧ys=((M.take i).map g).map V.int,⟨as.length,rfl,b8 _,fun b o e=>?_,aE,rfl⟩,?_⟩
 ·rw[aK (aM e hD)]
  exact e
 ·rintro i m ys H2 ⟨rfl,hi,hs,hd,rfl⟩
  by_cases hlt:i<as.length
  ·have hlt':i<(as.map V.ref).length:=by rw[aR];exact hlt
   have hr:M[i]?=some (M[i]'(by omega)):=aa (by omega);refine .inr ⟨rd.go i H2 hs hlt',by rw[aR,aR,cb];omega,fun v H'=>v = .int (g (M[i]'(by omega)))∧aJ H2 H',fun v H' ⟨ev,hs'⟩=>⟨hs' D _ hd,as.length-(i+1),by omega,rfl,hlt,fun b o e=>?kp,aE,?app⟩,fun y H' hy=>?stp⟩
   case app =>
    rw[ev,cn,hr,bn,bn];rfl
   case kp =>
    rw[aK (aM e hD)];exact hs' b o (hs b o e)
   case stp =>
    obtain⟨rfl,e2⟩:=rd.yl i H2 y H' hs hy;obtain⟨a2,r2,rfl,hr2,hs2⟩:=(hR.on hs).at e2;obtain rfl:=ba (hr2.symm.trans hr);exact he a2 _ _ (ay hr) hs2 hs _ fun H'' s''=>⟨rfl,s''⟩
  ·have e:i=as.length:=by omega
   have hst:=rd.st H2 hs;rw[aR] at hst;subst e;rw[cq (by omega)] at hd;exact .inl ⟨hst,hq D H2 hD hs hd⟩
section
variable {X:Cx}{pins:List (Addr×Obj)}{σ:St}{H:Hp}{s:Shared}{a:Addr}{kvs:List (Key×V)}{k:Key}{A:Around}{E:Value->Shared->Prop}
theorem Mv {v:V}{u r:Value}{Q:Value->Shared->Prop}(I:Inv X pins σ H s)(e:H a=some (.dK kvs))(ry:bE (kV k) u)(rv:bE v r)(hz:kvs.length<sizeLine)
  (h1:∀ x,eO kvs k=some x->∀ w' s',Inv X pins σ H s'->bE x w'->Q w' s') (h2:eO kvs k=none->∀ s',Inv X pins σ (upd H a (.dK (fT kvs k v))) s'->Q r s') :
  wpAny (model X.prog X.w) A (call (.builtin "dict.setdefault") [.ref a,u,r]) Q E s:=by
 obtain⟨z,hd,vs,rel,dd⟩:=kQ I.hok e;refine call_meetsIn ln dd.typeIs PySem.F.entry_dict_setdefault (PySem.F.args_dict_setdefault_3 _ _ _) (kt_meets_setdefault (bD X.prog X.w) a (pX ry) hd r)
  ⟨vs,dd,by rw[<- rel.length];exact z,fun w' hw=>?_,fun hn h' dd' hs=>?_⟩
 ·cases l:eO kvs k with
  | none =>
   have:=jJ.none_of (o:=valueAt vs k) (by rw[<- l];exact rel.val k)
   rw[this] at hw;cases hw
  | some x =>
   obtain⟨w2,hw2,rw2⟩:=jJ.some_of (v:=x) (o:=valueAt vs k) (by rw[<- l];exact rel.val k);rw[hw] at hw2;obtain rfl:=ba hw2;exact h1 x l w' _ (I.tok _) rw2
 ·have l:eO kvs k=none:=by
   cases l:eO kvs k with
   | none=>rfl
   | some x =>
    obtain⟨w2,hw2,_⟩:=jJ.some_of (v:=x) (o:=valueAt vs k) (by rw[<- l];exact rel.val k);rw[hn] at hw2;cases hw2
  have he:∃ q,h'.get? a=some q:=let ⟨q,_,_,hq,_⟩:=dd';⟨q,hq⟩
  have hl:(fT kvs k v).length<=sizeLine:=by have:=iZ kvs k v;omega
  exact h2 l _ (mX I (by rw[e];exact True.intro) hs he (zH hl hd (rel.put k rv) dd'))
end
def Wi (td ty tx:TE):TE:=fun σ H Q=>td σ H fun x H1=>∃ a,x = .ref a∧(∃ kvs,H1 a=some (.dK kvs))∧ty σ H1 fun y H2=>tx σ H2 fun z H3=>∃ kvs k,H3 a=some (.dK kvs)∧y=kV k∧kvs.length<sizeLine∧(∀ v,eO kvs k=some v->Q v H3)∧(eO kvs k=none->Q z (upd H3 a (.dK (fT kvs k z))))
section
variable {X:Cx}{o e f:Expr}{apos cpos:Pos}{td ty tx:TE}
theorem Dy (ho:PE X o td)(he:PE X e ty)(hf:PE X f tx)(m:M2 X o "setdefault" apos e f cpos):PE X (.Call (.Attribute o "setdefault" apos) [e,f] [] cpos) (Wi td ty tx):=by
 intro pins s σ H Q I h;refine wpAny_Call_method m.base m.few m.line j8 ln PySem.F.type_dict_setdefault (thn (ho pins s σ H _ I h) fun u s1 ⟨x,H1,I1,rx,a,ex,⟨kvs0,d⟩,q1⟩=>?_);subst ex;obtain rfl:u=Value.ref a:=rx;obtain⟨z0,hd0,vs0,rel0,dd0⟩:=kQ I1.hok d;refine⟨dd0.typeIs,fun b q=>?_,?_⟩
 ·cases q
  obtain⟨ob,_,_,g1,g2,_⟩:=dd0;exact⟨ob,g1,g2.2.1⟩
 rw[m.trees];refine Calls.callWith_builtin rfl (Calls.evalArgs_plain (Calls.spliced_cons (thn (he pins s1 σ H1 _ I1 q1) fun iv s2 ⟨y,H2,I2,ry,q2⟩ =>
  Calls.spliced_cons (thn (hf pins s2 σ H2 _ I2 q2) fun fv s3 ⟨z,H3,I3,rz,kvs,k,ea,ey,hz,q3,q4⟩=>Calls.spliced_nil ?_))))
 subst ey;exact Mv I3 ea ry rz hz (fun v l w' s4 I4 rw'=>⟨v,H3,I4,rw',q3 v l⟩) fun l s4 I4=>⟨z,_,I4,rz,q4 l⟩
end
end L2
namespace SS
open PySem PyProof.Rows L2
section
variable {prog:Program}{w:World}{A:Around}{E:Value->Shared->Prop}{s:Shared}
theorem Jb {a:Addr}{vs:List (Key×Value)}{ep:Nat}{R:Result->Shared->Prop}(hh:A.handled=none)(hd:(a==sysModules)=false)(hD:Heap.DictAt (bD prog w) s.heap a vs ep)(hz:vs.length<=sizeLine)(S:Addr)(h1:S≠a)(hS:s.heap.get? S=some { cls:=.type "list",data:=.seq #[] })
  (hR:∀ s' acc' c',(∀ b o,b≠S->s.heap.get? b=some o->s'.heap.get? b=some o)->s'.gens=s.gens->s'.os=s.os->s'.heap.get? S=some { cls:=.type "list",dict:=none,data:=.seq acc' c',slots:=#[] }->ItemsOf (vR vs) acc' vs.length->R (.ok (.ret .none)) s') :
  wpAny (model prog w) A.in1 (Builtin.«list.__init__» ⟨[.ref S,.ref a],[]⟩)
   (fun fin s'=>match fin with | .done f=>R (.ok f) s' | .again c'=>c'.quiet=true∧codeAny (model prog w) A c' R s') (fun e s'=>R (.error e) s') s:=by
 show wpAny _ _ (do let old <- Builtin.List.listItems (.ref S);Builtin.List.listUpdate (.ref S) (fun _=>#[]);letGo old.toList.reverse;Builtin.List.listExtendWith (.ref S) (.ref a) .none) _ _ s;refine wpAny_bind ?_;unfold Builtin.List.listItems;refine wpAny_bind (wpAny_seqItems hS rfl (wpAny_pure ?_));show wpAny _ _ (updateSeq S (fun _=>#[]) >>= fun _=>letGo (#[]:Array Value).toList.reverse >>= fun _=>Builtin.List.listExtendWith (.ref S) (.ref a) .none) _ _ s;refine wpAny_bind (wpAny_updateSeq hS rfl ?_);have hS₂:=Heap.get?_update_self (Obj.mapSeq (fun _=>(#[]:Array Value))) hS rfl;have oth:∀ b o,b≠S->s.heap.get? b=some o->(s.heap.update S (Obj.mapSeq (fun _=>(#[]:Array Value)))).get? b=some o :=
  fun b o hb e=>(Heap.get?_update_other _ _ (Ne.symm hb)).trans e
 refine wpAny_bind (wpAny_letGo ?_);have hD2:Heap.DictAt (bD prog w) (s.heap.update S (Obj.mapSeq (fun _=>(#[]:Array Value)))) a vs ep:=by
  obtain⟨o,es,g,r⟩:=hD;exact⟨o,es,oth a o (Ne.symm h1) g,r⟩
 refine tM (A:=A) (s:={ s with heap:=s.heap.update S (Obj.mapSeq (fun _=>(#[]:Array Value))) }) hh hd hD2 hz S .none h1 hS₂ fun s' acc' c' kp g1 g2 e1 e2=>?_
 exact hR s' acc' c' (fun b o hb e=>kp b o hb (oth b o hb e)) g1 g2 e1 e2
theorem sV {a:Addr}{vs:List (Key×Value)}{ep:Nat}{Q:Value->Shared->Prop}(hh:A.handled=none)(hd:(a==sysModules)=false)(hD:Heap.DictAt (bD prog w) s.heap a vs ep)(hz:vs.length<=sizeLine)
  (hQ:∀ (s':Shared) (acc:Array Value) (c':Nat),(∀ b o,s.heap.get? b=some o->s'.heap.get? b=some o)->s'.gens=s.gens->s'.os=s.os->s'.heap.get? s.heap.objs.size=some { cls:=.type "list",dict:=none,data:=.seq acc c',slots:=#[] }->ItemsOf (vR vs) acc vs.length->Q (.ref s.heap.objs.size) s') :
  wpAny (model prog w) A (call (.type "list") [.ref a]) Q E s:=by
 have hlt:a<s.heap.objs.size:=by obtain⟨o,es,g,r⟩:=hD;exact Heap.lt_size g
 refine callType_codes (Q₁:=fun obj s₁=>obj = .ref s.heap.objs.size∧s₁ = { s with heap:=s.heap.push { cls:=.type "list",data:=.seq #[] } }) F.called_list (F.typeCall_list_1 _) F.entry_list_init
  (code_list_new _ ⟨rfl,rfl⟩) fun obj s₁ h₁=>?_
 obtain⟨rfl,rfl⟩:=h₁;have hS:(s.heap.push { cls:=.type "list",data:=.seq #[] }).get? s.heap.objs.size=some { cls:=.type "list",data:=.seq #[] }:=Heap.get?_push_size _ rfl
 refine⟨⟨_,hS,rfl⟩,F.args_list_init_2 _ _,Jb (A:=A.in1) (s:={ s with heap:=s.heap.push { cls:=.type "list",data:=.seq #[] } }) hh hd (tL hD) hz _ (fh hlt) hS fun s' acc' c' kp g1 g2 e1 e2=>?_⟩
 exact⟨rfl,hQ s' acc' c' (fun b o e=>kp b o (a7 (Heap.lt_size e)) (Heap.get?_push_of_some _ e)) g1 g2 e1 e2⟩
end
end SS
namespace L2
open PySem PyProof.Rows
section
variable {X:Cx}
theorem vO:∀ {us:List Value} {ls:List (List Nat)},StrsAre us (ls.map tx)->bR (ls.map T) us
 | [],[],_=>.nil
 | u::us,l::ls,h=>by
  cases h with
  | cons x t r=>exact .cons ⟨_,rfl⟩ (vO r)
theorem Ea (hc:X.calm=true):eP X (.type "list") (fun xs H Q=>∃ (p:Addr) (ls:List (List Nat)) (kvs:List (Key×V)),xs=[.ref p]∧H p=some (.dK kvs)∧kvs.map (·.1)=ls.map (fun t=>ca (tx t))∧∀ (D:Addr),H D=none->Q (.ref D) (upd H D (.lst (ls.map T)))):=by
 intro pins s σ H xs us Q I r h;obtain⟨p,ls,kvs,rfl,hq,hk,q⟩:=h;obtain⟨u,rfl,ru⟩:=gD r;cases ru;obtain⟨z,hd,vs,rel,dd⟩:=kQ I.hok hq;obtain⟨o,es,ep,rest⟩:=dd;have hl:ls.length=kvs.length:=by have:=congrArg fo hk;simpa using this.symm
 refine SS.sV (vs:=vs) (ep:=ep) (I.ok.hd hc) hd ⟨o,es,rest⟩ (by rw[<- rel.length];exact z) fun s' acc c' kp g1 g2 e1 e2=>?_
 have hv:=vO (wB hk rel e2);have hg:AllBare s'.gens:=by rw[g1];exact I.bare
 have hf:H s.heap.objs.size=none:=I.hok.fresh (af _);have new:cH X.prog X.w (upd H s.heap.objs.size (.lst (ls.map T))) s'.heap s.heap.objs.size (.lst (ls.map T)):=⟨by rw[aR,hl];exact z,acc.toList,c',hv,by simpa using e1⟩;exact⟨.ref s.heap.objs.size,_,I.call' (ch:=[]) g2 (Un.laid kp (af _) hf) (I.hok.laid kp (af _) new) hg (fun _ z=>nomatch z),rfl,q _ hf⟩
end
theorem Sm {K:ae}{J:It}{vs:List V}{te:TE}{σ:St}{H:Hp}{Q:VK}(g:V->List Int)(rd:lV J H vs)(hn:vs.length<=sizeLine)
  (he:∀ v H',v∈vs->aJ H H'->∀ N:V->Hp->Prop,(∀ c H'',aJ H' H''->H' c=none->H'' c=some (.lst ((g v).map V.int))->N (.ref c) H'')->te (some v::σ) H' N)
  (hq:∀ D bs H',H D=none->aJ H H'->H' D=some (.lst (bs.map V.ref))->(∀ b∈bs,b≠D)->dZ K H' bs (vs.map g)->Q (.ref D) H'):jC te σ Q J H:=by
 intro D hD;refine⟨fun i m ys H2=>m=vs.length-i∧i<=vs.length∧aJ H H2∧H2 D=some (.lst ys)∧∃ bs:List Addr,ys=bs.map V.ref∧bs.length=i∧∀ (j:Nat) (b:Addr) (v:V),bs[j]?=some b->vs[j]?=some v->b≠D∧H2 b=some (.lst ((g v).map V.int)),⟨vs.length,rfl,b8 _,fun b o e=>?_,aE,[],rfl,rfl,fun j b r e=>by simp at e⟩,?_⟩
 ·rw[aK (aM e hD)]
  exact e
 ·rintro i m ys H2 ⟨rfl,hi,hs,hd,bs,rfl,hl,hb⟩
  by_cases hlt:i<vs.length
  ·obtain⟨r,hr⟩:∃ r,vs[i]?=some r:=⟨_,aa hlt⟩
   refine .inr ⟨rd.go i H2 hs hlt,by rw[aR];omega,fun v H'=>aJ H2 H'∧∃ c,v = .ref c∧c≠D∧H' c=some (.lst ((g r).map V.int)),fun v H' ⟨hs',c,ev,hcD,hc⟩=>⟨hs' D _ hd,vs.length-(i+1),by omega,rfl,hlt,fun b o e=>?kp,aE,bs++[c],?app,by rw[aq,hl];rfl,fun j b r' e1 e2=>?la⟩,fun y H' hy=>?stp⟩
   case app =>
    rw[ev,bn];rfl
   case kp =>
    rw[aK (aM e hD)];exact hs' b o (hs b o e)
   case la =>
    by_cases hj:j<bs.length
    ·rw[fq hj] at e1
     obtain⟨h1,h2⟩:=hb j b r' e1 e2;exact⟨h1,by rw[aK h1];exact hs' b _ h2⟩
    ·have hj':j=bs.length:=by
      have:=(ag.mp e1).1
      rw[aq,b7] at this;omega
     subst hj';rw[fi (af _),qo] at e1;obtain rfl:c=b:=ba e1;rw[hl,hr] at e2;obtain rfl:=ba e2;exact⟨hcD,by rw[aK hcD];exact hc⟩
   case stp =>
    obtain⟨rfl,e2⟩:=rd.yl i H2 y H' hs hy;rw[hr] at e2;obtain rfl:=ba e2;exact he r _ (ay hr) hs _ fun c H'' s'' hc hc2=>⟨s'',c,rfl,fun z=>(by rw[z,hd] at hc;cases hc),hc2⟩
  ·have e:i=vs.length:=by omega
   have hst:=rd.st H2 hs;subst e;refine .inl ⟨hst,hq D bs H2 hD hs hd (fun b hb'=>?_) ⟨by rw[hl,aR],fun j b r e1 e2=>?_⟩⟩
   ·obtain⟨j,hj⟩:=g9 hb'
    have hjl:=(ag.mp hj).1;exact (hb j b _ hj (aa (show j<vs.length by omega))).1
   ·rw[al] at e2
    obtain⟨r',hr',rfl⟩:=bi.mp e2;exact SqL.of (hb j b r' e1 hr').2
section
variable {X:Cx}{pins:List (Addr×Obj)}{σ:List (Option V)}{H H':Hp}{s:Shared}
theorem Inv.reH (I:Inv X pins σ H s)(free:∀ b,H b=none->H' b=none)(tups:∀ b xs,X.H₀ b=some (.tup xs)->H' b=some (.tup xs))(frzs:∀ b o u,X.H₀ b=some (.frz o u)->H' b=some (.frz o u))(tbls:∀ b ps,X.H₀ b=some (.tbl ps)->∃ more,H' b=some (.tbl (ps++more)))
  (hok:HOk X.prog X.w H' s.heap):Inv X pins σ H' s :=
 ⟨I.ok,I.os,I.bare,⟨I.base.keep,I.base.slot,fun b o e n hx=>free b (I.base.free b o e n hx),I.base.there,tups,frzs,tbls⟩,I.loc,I.cell,free _ I.free,fun x c e=>free _ (I.freeC x c e),fun p hp=>⟨(I.pin p hp).1,free _ (I.pin p hp).2.1,(I.pin p hp).2.2⟩,hok,I.len⟩
theorem Fo {P:Program}{w:World}{h:Heap}{a:Addr}{u v:HO}(x:HOk P w H h)(ha:H a=some u)(h1:∀ y,u≠.own y)(h2:∀ xs,u≠.tup xs)(ok:cH P w H h a v):HOk P w (upd H a v) h:=by
 have ho:∀ y b,H b=some (.own y)->upd H a v b=some (.own y):=fun y b e=>by
  rw[aK (fun z=>by rw[z,ha] at e;exact h1 y (ba e))];exact e
 have ht:∀ b xs,H b=some (.tup xs)->upd H a v b=some (.tup xs):=fun b xs e=>by
  rw[aK (fun z=>by rw[z,ha] at e;exact h2 xs (ba e))];exact e
 intro b o e;by_cases c:b=a
 ·subst c
  rw[aE] at e;cases e;exact ok.stay (fun _ _ _ e=>e) (fun c=>ho b c) ht
 ·rw[aK c] at e
  exact (x b o e).stay (fun _ _ _ e=>e) (fun c=>ho b c) ht
theorem Inv.freeze {a:Addr}{kvs:List (Key×V)}(I:Inv X pins σ H s)(e:H a=some (.dK kvs)):∃ o,s.heap.get? a=some o∧Inv X pins σ (upd H a (.frz o (.dK kvs))) s:=by
 have hx:cH X.prog X.w H s.heap a (.dK kvs):=I.hok a _ e;obtain⟨o,ho⟩:∃ o,s.heap.get? a=some o:=by
  obtain⟨_,_,_,_,o,_,_,q,_⟩:=hx;exact⟨o,q⟩
 have ne:∀ b u,X.H₀ b=some u->H b=some u->(∀ k,u≠.dK k)->upd H a (.frz o (.dK kvs)) b=some u:=fun b u _ q n=>by
  rw[aK (fun z=>by rw[z,e] at q;exact n _ (ba q).symm)];exact q
 refine⟨o,ho,I.reH (fun b n=>?_) (fun b xs q=>ne b _ q (I.base.tups b xs q) (fun k z=>nomatch z)) (fun b o' u q=>ne b _ q (I.base.frzs b o' u q) (fun k z=>nomatch z)) (fun b ps q=>?_) (Fo I.hok e (fun y z=>nomatch z) (fun xs z=>nomatch z) ⟨ho,hx⟩)⟩
 ·rw[aK (fun z=>by rw[z,e] at n;cases n)];exact n
 ·obtain⟨m,q'⟩:=I.base.tbls b ps q
  exact⟨m,by rw[aK (fun z=>by rw[z,e] at q';cases q')];exact q'⟩
theorem Inv.thaw {a:Addr}{o:Obj}{kvs:List (Key×V)}(I:Inv X pins σ H s)(e:H a=some (.frz o (.dK kvs)))(h0:X.H₀ a=none):Inv X pins σ (upd H a (.dK kvs)) s:=by
 obtain⟨_,hx⟩:cH X.prog X.w H s.heap a (.frz o (.dK kvs)):=I.hok a _ e;refine I.reH (fun b n=>?_) (fun b xs q=>?_) (fun b o' u q=>?_) (fun b ps q=>?_) (Fo I.hok e (fun y z=>nomatch z) (fun xs z=>nomatch z) hx)
 ·rw[aK (fun z=>by rw[z,e] at n;cases n)];exact n
 ·rw[aK (fun z=>by rw[z,h0] at q;cases q)];exact I.base.tups b xs q
 ·rw[aK (fun z=>by rw[z,h0] at q;cases q)];exact I.base.frzs b o' u q
 ·rw[aK (fun z=>by rw[z,h0] at q;cases q)];exact I.base.tbls b ps q
end
def Itk (a:Addr)(o:Obj)(kvs:List (Key×V)):It :=
 ⟨fun i H=>H a=some (.frz o (.dK kvs))∧i<kvs.length,fun i H x H'=>H'=H∧∃ kv,kvs[i]?=some kv∧x=kV kv.1,fun i H=>H a=some (.frz o (.dK kvs))∧kvs.length<=i⟩
theorem Mm {P:Program}{w:World}{k:Key}{u:Value}(h:(bD P w).is k u=true):bE (kV k) u:=by
 cases k with
 | inl i =>
  have h:Value.isInt i u=true:=h
  have:∃ t,u = .int i t:=by cases u <;> simp_all [Value.isInt]
  obtain⟨t,rfl⟩:=this;exact⟨t,rfl⟩
 | inr x =>
  obtain⟨t,rfl⟩:=Value.isStrOf_shape (show Value.isStrOf x u=true from h);exact⟨t,rfl⟩
theorem Hw {P:Program}{w:World}{K:ae}{tg:Expr}{a it:Addr}{o:Obj}{kvs:List (Key×V)}{vs:List (Key×Value)}{ep:Nat}(hK:KV kvs vs)(hd:∀ h:Heap,h.get? a=some o->h.DictAt (bD P w) a vs ep) :
  vE P w K tg (Itk a o kvs) [it] it (fun i h=>h.IsKeyIter it a i vs.length ep) where
 mem:=by simp
 obj:=fun i h st b hb=>by
  have e:b=it:=by simpa using hb
  subst e;obtain⟨o,e,c,d⟩:=st;exact⟨o,e,fun v z=>by rw[d] at z;cases z⟩
 keep:=fun i h h' st k=>st.at fun o e=>k it (by simp) o e
 item:=by
  intro X hP hw hK' hc i pins s σ H E I hf st hg;subst hP hw hK';obtain⟨ha,hi⟩:=hg;obtain⟨ho,_⟩:cH X.prog X.w H s.heap a (.frz o (.dK kvs)):=I.hok a _ ha;have hl:=hK.length;obtain⟨f0,f1,f2,f3,f4,f5⟩:=hf it (by simp);have hvi:vs[i]?=some vs[i]:=aa (by omega);have hki:kvs[i]?=some kvs[i]:=aa hi;have hkk:kvs[i].1=vs[i].1:=by
   have:=hK.keys
   have h1:(kvs.map (·.1))[i]?=(vs.map (·.1))[i]?:=by rw[this]
   rw[al,al,hki,hvi] at h1;exact ba h1
  refine wpAny_pyNext_dict_item (k:=vs[i].1) (v:=vs[i].2) st (hd _ ho) hvi fun key h' hkey st' sb=>?_
  have I1:Inv X pins σ H { s with heap:=h' }:=I.turned (t':=s.toks) (fun b o hb e=>(sb.2 b hb).trans e) f0 f1 f3 f4 f5;exact⟨key,rfl,letGo_keyiter (s':={ s with heap:=h' }) st' ⟨kV kvs[i].1,H,I1,by rw[hkk];exact Mm hkey,⟨rfl,_,hki,rfl⟩,st',fun b hb=>(hf b hb).1⟩⟩
 done:=by
  intro X hP hw hK' hc i pins s σ H E I hf st hg;subst hP hw hK';obtain⟨ha,hi⟩:=hg;obtain⟨ho,_⟩:cH X.prog X.w H s.heap a (.frz o (.dK kvs)):=I.hok a _ ha;have hl:=hK.length;obtain⟨f0,f1,f2,f3,f4,f5⟩:=hf it (by simp);exact wpAny_pyNext_dict_end (I.ok.hd hc) st (hd _ ho) (cp (by omega)) fun h' eb=>⟨rfl,I.turned (t':=s.toks) (fun b o hb e=>eb b o hb e) f0 f1 f3 f4 f5⟩
 self:=fun _ _ _ _ _ st h=>wpAny_pyIter_keyiter st h
def Vt (td:TE):TI:=fun σ H R=>td σ H fun x H1=>∃ a kvs,x = .ref a∧H1 a=some (.dK kvs)∧∀ o,R (Itk a o kvs) (upd H1 a (.frz o (.dK kvs)))
section
variable {X:Cx}{tg:Expr}
theorem yK {l:Expr}{tl:TE}(hl:PE X l tl):PI X tg l (Vt tl):=by
 intro pins s σ H R I h;refine thn (hl pins s σ H _ I h) fun v s1 ⟨x,H1,I1,r1,q1⟩=>?_
 obtain⟨a,kvs,e,ha,q⟩:=q1;subst e;cases r1;obtain⟨z,hsm,vs,rel,dd⟩:=kQ I1.hok ha;obtain⟨ep,dat⟩:=dd.dictAt;obtain⟨o,ho,I2⟩:=I1.freeze ha;refine wpAny_pyIter_dict hsm dat ?_;refine⟨s1.heap.objs.size,[s1.heap.objs.size],_,_,_,rfl,I2.kept (t':=s1.toks) fun b o e=>Heap.get?_push_of_some _ e,Hw rel (fun h e=>dat.at' fun o' e'=>by rw[ho] at e';rw[<- e'];exact e),⟨_,Heap.get?_push_size _ rfl,rfl,rfl⟩,fun b hb=>?_,q o⟩;have e:b=s1.heap.objs.size:=by simpa using hb
 subst e;exact I2.fpOk (af _) (I2.hok.fresh (af _))
def Uy (H₀:Hp)(t:TE):TE:=fun σ H Q=>t σ H fun v H'=>∃ a o kvs,H' a=some (.frz o (.dK kvs))∧H₀ a=none∧Q v (upd H' a (.dK kvs))
theorem Qx {e:Expr}{t:TE}(h:PE X e t):PE X e (Uy X.H₀ t):=by
 intro pins s σ H Q I hw;refine thn (h pins s σ H _ I hw) fun v s1 ⟨x,H1,I1,r1,a,o,kvs,ha,h0,q⟩=>?_
 exact⟨x,_,I1.thaw ha h0,r1,q⟩
end
theorem Ef {a:Addr}{o:Obj}{kvs:List (Key×V)}{tc:TT}{te:TE}{σ:St}{H:Hp}{Q:VK}(p:Key->Bool)(f:Key->V)(hl:H a=some (.frz o (.dK kvs)))(hn:kvs.length<=sizeLine)
  (hc:∀ kv H',kv∈kvs->aJ H H'->∀ N:Bool->Hp->Prop,(∀ H'',aJ H' H''->N (p kv.1) H'')->tc (some (kV kv.1)::σ) H' N)
  (he:∀ kv H',kv∈kvs->p kv.1=true->aJ H H'->∀ N:V->Hp->Prop,(∀ H'',aJ H' H''->N (f kv.1) H'')->te (some (kV kv.1)::σ) H' N)
  (hq:∀ D H',H D=none->aJ H H'->H' D=some (.lst (((kvs.map (·.1)).filter p).map f))->Q (.ref D) H'):iA tc te σ Q (Itk a o kvs) H:=by
 intro D hD;have hDa:∀ {G:Hp},aJ H G->G a=some (.frz o (.dK kvs)):=fun s=>s a _ hl
 refine⟨fun i m ys H2=>m=kvs.length-i∧i<=kvs.length∧ys=((((kvs.take i).map (·.1)).filter p).map f)∧aJ H H2∧H2 D=some (.lst ys),⟨kvs.length,rfl,b8 _,rfl,fun b u e=>?_,aE⟩,?_⟩
 ·rw[aK (aM e hD)]
  exact e
 ·rintro i m ys H2 ⟨rfl,hi,rfl,s2,hd⟩
  by_cases hlt:i<kvs.length
  ·have h1:kvs[i]?=some kvs[i]:=aa hlt
   have hm:kvs[i]∈kvs:=cz hlt;have htk:kvs.take (i+1)=kvs.take i++[kvs[i]]:=by rw[cn,h1];rfl
   have hlen:((((kvs.take i).map (·.1)).filter p).map f).length<=i:=by
    rw[aR];refine a5 (db _ _) ?_;rw[aR,cb];omega
   refine .inr ⟨⟨hDa s2,hlt⟩,by omega,fun v H'=>p kvs[i].1=true∧v=f kvs[i].1∧aJ H2 H',fun v H' ⟨hp,ev,hs'⟩=>⟨hs' D _ hd,kvs.length-(i+1),by omega,rfl,hlt,?app,fun b u e=>?kp,aE⟩,fun H'=>p kvs[i].1=false∧aJ H2 H',fun H' ⟨hp,hs'⟩=>⟨kvs.length-(i+1),by omega,rfl,hlt,?no,s2.trans hs',hs' D _ hd⟩,fun y H' hy'=>?stp⟩
   case app=>rw[ev,htk,bn,fu,bn,l9,cu,hp];rfl
   case kp =>
    rw[aK (aM e hD)];exact hs' b u (s2 b u e)
   case no=>rw[htk,bn,fu,bn,l9,cu,hp];simp
   case stp =>
    obtain⟨rfl,kv,hkv,rfl⟩:=hy';obtain rfl:kvs[i]=kv:=ba (h1.symm.trans hkv);refine hc _ _ hm s2 _ fun H3 s3=>?_
    cases hp:p kvs[i].1 with
    | true =>
     rw[if_pos rfl];exact he _ _ hm hp (s2.trans s3) _ fun H4 s4=>⟨rfl,rfl,s3.trans s4⟩
    | false =>
     rw[if_neg ak];exact⟨rfl,s3⟩
  ·have e:i=kvs.length:=by omega
   subst e;rw[cq (af _)] at hd;exact .inl ⟨⟨hDa s2,af _⟩,hq D H2 hD s2 hd⟩
theorem vQ:∀ {kvs:List (Key×V)} {vs:List (Key×Value)} {i:Nat} {p:Key×V} {k:Key} {x:Value},KV kvs vs->kvs[i]?=some p->vs[i]?=some (k,x)->bE p.2 x
 | _,_,0,_,_,_,.cons r _,h1,h2=>by
  cases h1;cases h2;exact r.2
 | _,_,i+1,_,_,_,.cons _ t,h1,h2=>vQ (i:=i) t h1 h2
def Vw (v a:Addr):HO:=.ext fun h=>h.IsValuesView v a
def Tw (td:TE):TE:=fun σ H Q=>td σ H fun x H1=>∃ a kvs,x = .ref a∧H1 a=some (.dK kvs)∧∀ v,H1 v=none->Q (.ref v) (upd H1 v (Vw v a))
section
variable {X:Cx}{o:Expr}{td:TE}{apos cpos:Pos}
theorem Bi (ho:PE X o td)(hbase:attributeBase o "values" X.env (eval o X.env)=eval o X.env:=by rfl)(hline:(apos.endLine==cpos.line)=true:=by rfl):PE X (.Call (.Attribute o "values" apos) [] [] cpos) (Tw td):=by
 intro pins s σ H Q I h;refine wpAny_Call_method0_late hbase hline (thn (ho pins s σ H _ I h) fun v s1 ⟨x,H1,I1,r1,a,kvs,ex,ha,q1⟩=>?_);subst ex;obtain rfl:v=Value.ref a:=r1;obtain⟨t1,t2,_⟩:=Mw I1 (.inl ⟨kvs,.inl ha⟩);obtain⟨z,hsm,vs,rel,dd⟩:=kQ I1.hok ha;refine⟨"dict", "dict.values",j8,my,PySem.F.type_dict_values,t1,t2,Calls.callWith_builtin rfl (PySem.evalArgs_none ?_)⟩
 refine call_meetsIn my t1 PySem.F.entry_dict_values (PySem.F.args_dict_values_1 _) (meets_dict_values (bD X.prog X.w) a hsm) ⟨⟨vs,dd⟩,?_⟩;have hf:H1 s1.heap.objs.size=none:=I1.hok.fresh (af _);refine⟨.ref s1.heap.objs.size,_,I1.laid (t':=s1.toks) (fun _ _ q=>Heap.get?_push_of_some _ q) (af _) (o:=Vw s1.heap.objs.size a) ?_,rfl,q1 _ hf⟩;refine⟨⟨_,Heap.get?_push_size _ rfl,rfl,rfl⟩,⟨_,Heap.get?_push_size _ rfl⟩,fun h1 h2 ⟨o,e,r⟩ kk=>⟨o,kk o e,r⟩⟩
theorem vY (hc:X.calm=true):eP X (.builtin "sum") (fun xs H Q=>∃ (v a:Addr) (kvs:List (Key×V)) (ns:List Int),xs=[.ref v]∧H v=some (Vw v a)∧H a=some (.dK kvs)∧kvs.map (·.2)=ns.map V.int∧Q (.int ns.sum) H):=by
 intro pins s σ H xs us Q I r h;obtain⟨v,a,kvs,ns,rfl,hv,ha,hns,q⟩:=h;obtain⟨u,rfl,ru⟩:=gD r;cases ru;obtain⟨hvw,_⟩:cH X.prog X.w H s.heap v (Vw v a):=I.hok v _ hv;obtain⟨z,hsm,vs,rel,dd⟩:=kQ I.hok ha;obtain⟨ep,dat⟩:=dd.dictAt;have hlen:=rel.length;have hnl:ns.length=kvs.length:=by rw[<- aR (f:=V.int),<- hns,aR]
 have hval:∀ (i:Nat) (k:Key) (x:Value),vs[i]?=some (k,x)->∃ t,x=Value.int (ns.getD i 0) t:=fun i k x e=>by
  have hil:i<vs.length:=(ag.mp e).1;obtain⟨p,hp,r⟩:∃ p,kvs[i]?=some p∧bE p.2 x:=by
   have hik:i<kvs.length:=by omega
   refine⟨kvs[i],aa hik,?_⟩;exact vQ rel (aa hik) e
  have h1:(kvs.map (·.2))[i]?=(ns.map V.int)[i]?:=by rw[hns]
  rw[al,al,hp,aa (by omega)] at h1;have h2:=ba h1;rw[show p.2=V.int ns[i] from h2] at r;obtain⟨t,rfl⟩:=r;exact⟨t,by rw[aj,aa (by omega)];rfl⟩
 have hsum:preSum (fun i=>ns.getD i 0) vs.length=ns.sum:=by rw[preSum_getD,cq (by omega)]
 refine call_sum_walkG (wpAny_pyIter_values hvw dat ⟨s.heap.objs.size,[s.heap.objs.size,a],[s.heap.objs.size],vs.length,_,_,fun i=>ns.getD i 0,rfl,Walks.dictValues (knd:=bD X.prog X.w) (A:=X.A.in1) (show X.A.in1.handled=none from I.ok.hd hc) s.heap.objs.size a (a7 dat.lt_size) vs ep,⟨⟨_,Heap.get?_push_size _ rfl,rfl,rfl⟩,dat.push _⟩,?_,fun i v ⟨k,e⟩=>hval i k v e,fun h' tk t' hk=>?_⟩)
 ·intro b hb
  have hsz:((s.heap.push { cls:=.type "dict_valueiterator",data:=.fields #[.ref a,.int 0 0,.int vs.length 0,.int ep 0] })).objs.size=s.heap.objs.size+1:=by simp[Heap.push]
  have ha:=dat.lt_size;rcases aw.mp hb with rfl | hb
  ·rw[hsz];exact fc _
  ·rw[az.mp hb,hsz];exact dg ha
 ·rw[hsum]
  exact⟨.int ns.sum,H,I.kept (fun b o e=>hk b o (by simp;exact a7 (Heap.lt_size e)) (Heap.get?_push_of_some _ e)),⟨t',rfl⟩,q⟩
end
open PySem.Spec
section
variable {X:Cx}
end
end L2
namespace L2
open PySem PyProof.Rows
section
variable {X:Cx}{pins:List (Addr×Obj)}{σ:St}{H:Hp}{s:Shared}
end
section
variable {X:Cx}
end
theorem Bu {a:Addr}{o:Obj}{kvs:List (Key×V)}{g:TG}{tb:TS}{D:kK}{σ:St}{H:Hp}(Pv:Nat->St->Hp->Prop)(h0:Pv 0 σ H)(hl:∀ i σ H,i<=kvs.length->Pv i σ H->H a=some (.frz o (.dK kvs)))
  (hs:∀ i kv σ H,kvs[i]?=some kv->Pv i σ H->g (kV kv.1) σ H fun σ2 H2=>tb { D with nx:=Pv (i+1),ct:=Pv (i+1),bk:=D.nx } σ2 H2) (hd:∀ σ H,Pv kvs.length σ H->D.nx σ H) :
  ∃ W:Nat->Nat->St->Hp->Prop,(∃ m,W 0 m σ H)∧∀ i m σ H,W i m σ H ->
   ((Itk a o kvs).stop i H∧D.nx σ H)∨((Itk a o kvs).go i H∧∃ N:St->Hp->Prop,(∀ σ' H',N σ' H'->∃ m',m'<m∧W (i+1) m' σ' H')∧∀ x H',(Itk a o kvs).yld i H x H'->g x σ H' fun σ2 H2=>tb { D with nx:=N,ct:=N,bk:=D.nx } σ2 H2):=by
 refine⟨fun i m σ H=>m=kvs.length-i∧i<=kvs.length∧Pv i σ H,⟨kvs.length,by simp,b8 _,h0⟩,?_⟩;rintro i m σ H ⟨rfl,hi,p⟩;have hA:=hl i σ H hi p;by_cases hlt:i<kvs.length
 ·refine .inr ⟨⟨hA,hlt⟩,Pv (i+1),fun σ' H' p'=>⟨kvs.length-(i+1),by omega,rfl,hlt,p'⟩,fun x H' hy=>?_⟩
  obtain⟨rfl,kv,e,rfl⟩:=hy;exact hs i kv σ _ e p
 ·have e:i=kvs.length:=by omega
  subst e;exact .inl ⟨⟨hA,af _⟩,hd σ H p⟩
open PySem.Spec
section
variable {M:Model}{A:Around}{E:Value->Shared->Prop}{s:Shared}
end
section
variable {X:Cx}{N':List Str}{scope:Scope}{x:Str}{px:Pos}{elt iter:Expr}{cds:List Expr}{pos:Pos}{te:TE}{tc:TT}{wi:TI}
end
section
variable {X:Cx}
end
section
variable {X:Cx}{N':List Str}{scope:Scope}{x:Str}{px:Pos}{elt iter cd:Expr}{pos:Pos}{te:TE}{tc:TT}{wi:TI}
end
end L2
namespace L2
open PySem PyProof.Rows
def SqA (K:ae)(H:Hp)(a:Addr)(xs:List V):Prop:=SqL K H a xs∨SqT K H a xs
theorem SqA.on {K:ae}{H H':Hp}{a:Addr}{xs:List V}(h:SqA K H a xs)(s:aJ H H'):SqA K H' a xs:=h.elim (fun h=>.inl (s.seq h)) fun h=>.inr (pV s h)
def iSq (K:ae)(tl:TE):TI:=fun σ H R=>tl σ H fun x H1=>∃ a xs H0,x = .ref a∧SqA K H0 a xs∧aJ H0 H1∧∀ J,lV J H0 xs->R J H1
section
variable {X:Cx}{tg:Expr}
theorem Tg {l:Expr}{tl:TE}(hl:PE X l tl):PI X tg l (iSq X.K tl):=by
 intro pins s σ H R I h;refine thn (hl pins s σ H _ I h) fun v s1 ⟨x,H1,I1,r1,q1⟩=>?_
 obtain⟨a,xs,H0,e,hq0 | hq0,s0,q0⟩:=q1
 ·have hq:=s0.seq hq0
  have q:=q0 _ (cI hq0);subst e;cases r1;obtain⟨its,rv,p,hz⟩:=I1.list hq;refine wpAny_pyIter_list p.isList ?_;refine⟨s1.heap.objs.size,[s1.heap.objs.size],_,_,H1,rfl,I1.kept (t':=s1.toks) fun b o e=>Heap.get?_push_of_some _ e,wW a _,⟨_,Heap.get?_push_size _ rfl,rfl,rfl⟩,fun b hb=>?_,q⟩;have e:b=s1.heap.objs.size:=by simpa using hb
  subst e;exact I1.fpOk (af _) (I1.hok.fresh (af _))
 ·have hq:=pV s0 hq0
  have q:=q0 _ (iD hq0);subst e;cases r1;obtain⟨its,rv,p,hz⟩:=I1.tuple hq;refine wpAny_pyIter_tuple (show s1.heap.IsTuple a its.toArray from p) ?_;refine⟨s1.heap.objs.size,[s1.heap.objs.size],_,_,H1,rfl,I1.kept (t':=s1.toks) fun b o e=>Heap.get?_push_of_some _ e,tI a _,⟨_,Heap.get?_push_size _ rfl,rfl,rfl⟩,fun b hb=>?_,q⟩;have e:b=s1.heap.objs.size:=by simpa using hb
  subst e;exact I1.fpOk (af _) (I1.hok.fresh (af _))
theorem xJ (K:ae)(hK:X.K=K){l:Expr}{tl:TE}(hl:PE X l tl):PI X tg l (iSq K tl):=by
 subst hK;exact Tg hl
end
theorem Jm {J:It}{H0:Hp}{vs:List V}{g:TG}{tb:TS}{D:kK}{σ:St}{H:Hp}(rd:lV J H0 vs)(Pv:Nat->St->Hp->Prop)(h0:Pv 0 σ H)(hl:∀ i σ H,i<=vs.length->Pv i σ H->aJ H0 H)
  (hs:∀ i x σ H,vs[i]?=some x->Pv i σ H->g x σ H fun σ2 H2=>tb { D with nx:=Pv (i+1),ct:=Pv (i+1),bk:=D.nx } σ2 H2) (hd:∀ σ H,Pv vs.length σ H->D.nx σ H) :
  ∃ W:Nat->Nat->St->Hp->Prop,(∃ m,W 0 m σ H)∧∀ i m σ H,W i m σ H ->
   (J.stop i H∧D.nx σ H)∨(J.go i H∧∃ N:St->Hp->Prop,(∀ σ' H',N σ' H'->∃ m',m'<m∧W (i+1) m' σ' H')∧∀ x H',J.yld i H x H'->g x σ H' fun σ2 H2=>tb { D with nx:=N,ct:=N,bk:=D.nx } σ2 H2):=by
 refine⟨fun i m σ H=>m=vs.length-i∧i<=vs.length∧Pv i σ H,⟨vs.length,by simp,b8 _,h0⟩,?_⟩;rintro i m σ H ⟨rfl,hi,p⟩;have hA:=hl i σ H hi p;by_cases hlt:i<vs.length
 ·refine .inr ⟨rd.go i H hA hlt,Pv (i+1),fun σ' H' p'=>⟨vs.length-(i+1),by omega,rfl,hlt,p'⟩,fun x H' hy=>?_⟩
  obtain⟨rfl,e⟩:=rd.yl i H x H' hA hy;exact hs i x σ _ e p
 ·have e:i=vs.length:=by omega
  subst e;exact .inl ⟨rd.st H hA,hd σ H p⟩
open PySem.Spec
section
variable {X:Cx}
theorem At (K:ae)(hK:X.K=K)(hu:X.A.units<cLine):OpR X (compareOp .NotEq) (fun x y H Q=>∃ (p b:Addr) (ys:List V),x = .ref p∧y = .ref b∧SqL K H p ys∧SqL K H b []∧Q (.bl (!ys.isEmpty)) H):=by
 subst hK;intro pins s σ H x y v u Q I rx ry h;obtain⟨p,b,ys,rfl,rfl,h1,h2,q⟩:=h;cases rx;cases ry;obtain⟨its,r,pl,_⟩:=I.list h1;obtain⟨its2,r2,pl2,_⟩:=I.list h2;have l1:=r.length;have l2:=r2.length
 cases ys with
 | nil =>
  have e1:its=[]:=bx.mp l1.symm;have e2:its2=[]:=bx.mp l2.symm;subst e1 e2;refine SeqAt.RcNeAt.lists (e:=fun _=>true) pl.isList pl2.isList rfl hu (fun j g1 g2=>absurd g1 (by simp)) _ _ _ _ ?_;exact⟨.bl _,H,I,rfl,q⟩
 | cons y ys =>
  refine SeqAt.RcNeAt.lists_lengths pl.isList pl2.isList (by rw[a8,a8,bne_iff_ne];simp only [a9,gj] at l1 l2;omega) hu _ _ _ _ ?_;exact⟨.bl _,H,I,rfl,q⟩
end
end L2
namespace L2
open PySem
theorem Kr {X:Cx}{st:Stmt}:PS X st (fun _ _ _=>False):=fun _ _ _ _ _ _ h=>h.elim
open PyProof.Rows PySem.Spec
section
variable {X:Cx}
theorem rR {pins:List (Addr×Obj)}{σ:St}{H:Hp}{s:Shared}{v:Value}{ls:List (List Nat)}{Q:VK}(h64:ls.length<64)
  (hc:∀ (A':Around) (Q':List Value->Shared->Prop),A'.handled=X.A.handled->(∀ (vs:List Value) (ss:List Str) (s1:Shared),StrsAre vs ss->ss.Perm (ls.map tx)->Inv X pins σ H s1->Q' vs s1)->wpAny (model X.prog X.w) A' (collect v) Q' X.xe s)
  (q:∀ (ms:List (List Nat)) (D:Addr),H D=none->ms.Perm ls->ms.Pairwise (fun a b=>¬ b<a)->Q (.ref D) (upd H D (.lst (ms.map T)))) :
  wpAny (model X.prog X.w) X.A (call (.builtin "sorted") [v]) (EP X pins σ Q) X.xe s:=by
 have hz:ls.length<=sizeLine:=by rw[sizeLine_eq];omega
 refine Calls.call_function_entry kind_sorted plain_sorted entry_sorted (args_sorted1 _) ?_;unfold Builtin.«sorted»;refine wpAny_bind (m:=checkCount "sorted" 1 1 _) (wpAny_pure (wpAny_bind (hc _ _ (by simp) fun vs ss s1 hS hp I1=>wpAny_bind (wpAny_newList ?_ (by rw[hS.length,hp.length_eq,aR];exact hz)))))
 have e2:(s1.heap.push (seqObj "list" vs.toArray 0)).get? s1.heap.objs.size=some (seqObj "list" vs.toArray 0):=Heap.get?_push_size _ rfl
 have hvl:vs.length=ls.length:=by rw[hS.length,hp.length_eq,aR]
 show wpAny _ _ _ _ _ { s1 with heap:=s1.heap.push (seqObj "list" vs.toArray 0) }
 have key:∀ (out:Array Value) (ss':List Str),StrsAre out.toList ss'->ss'.Perm ss->sortedS ss'=true->EP X pins σ Q (.ref s1.heap.objs.size) { s1 with heap:=sortedHeap (s1.heap.push (seqObj "list" vs.toArray 0)) s1.heap.objs.size vs out }:=fun out ss' b1 b2 b3=>by
  obtain⟨e,he⟩:=sortedHeap_at (out:=out) e2;have em:(ss'.map fun x=>x.cps.toList).map tx=ss':=by
   rw[br]
   conv=>rhs;rw[<- j6 ss']
   exact bv fun x _=>kB x
  have hp':(ss'.map fun x=>x.cps.toList).Perm ls:=by
   have y:=(b2.trans hp).map fun x=>x.cps.toList
   rw[br,show (fun x=>x.cps.toList)∘tx=id from funext dH,j6] at y;exact y
  refine⟨.ref _,_,I1.laid (t':=s1.toks) (fun b o eo=>?_) (af _) (o:=.lst ((ss'.map fun x=>x.cps.toList).map T)) ⟨?_,out.toList,e,oZ b1,by simpa using he⟩,rfl,q _ _ (I1.hok.fresh (af _)) hp' (wC _ (by rw[em];exact b3))⟩
  ·have hlt:=Heap.lt_size eo
   rw[sortedHeap_old (a7 hlt) (by rw[size_push'];exact dg hlt)];exact Heap.get?_push_of_some _ eo
  ·rw[aR,hp'.length_eq]
   exact hz
 refine wpAny_bind (wpAny_holding (wpAny_call_entry slot_list_sort ⟨_,e2,rfl⟩ entry_list_sort (list_sort_treeK strKind_oneLt e2 hS.keysOf (fun v1 v2 r e=>?_) (by omega) fun st' a1 a2=>⟨_,rfl,wpAny_pure ⟨_,rfl,?_⟩⟩) (args_list_sort _)))
 ·have hS2:=hS
  rw[e] at hS2;exact keyKind_strs hS2
 ·obtain⟨ss',b1,b2,b3⟩:=sorted_out_str hS a1 a2
  exact key _ ss' b1 b2 b3
theorem uV (hc:X.calm=true):eP X (.builtin "sorted") (fun xs H Q=>∃ (p:Addr) (ls:List (List Nat)),xs=[.ref p]∧H p=some (nB X.w p ls)∧ls.length<64∧∀ (ms:List (List Nat)) (D:Addr),H D=none->ms.Perm ls->ms.Pairwise (fun a b=>¬ b<a)->Q (.ref D) (upd H D (.lst (ms.map T)))):=by
 intro pins s σ H xs us Q I r h;obtain⟨p,ls,rfl,hq,hz,q⟩:=h;obtain⟨u,rfl,ru⟩:=gD r;cases ru;have hs:sizeLine=16777216:=sizeLine_eq;refine rR hz (fun A' Q' hA hQ=>SS.mC (by rw[hA];exact I.ok.hd hc) (xE I hq) (by rw[aR];omega) fun s' vs ss kp g1 g2 e1 e2=>hQ vs ss s' e1 e2 ?_) q;have hg:AllBare s'.gens:=by rw[g1];exact I.bare
 exact I.call' (ch:=[]) g2 (Un.kept kp) (I.hok.kept kp) hg fun _ z=>nomatch z
theorem vF (hc:X.calm=true):eP X (.builtin "sorted") (fun xs H Q=>∃ (p:Addr) (ls:List (List Nat)) (kvs:List (Key×V)),xs=[.ref p]∧H p=some (.dK kvs)∧kvs.map (·.1)=ls.map (fun t=>ca (tx t))∧ls.length<64∧∀ (ms:List (List Nat)) (D:Addr),H D=none->ms.Perm ls->ms.Pairwise (fun a b=>¬ b<a)->Q (.ref D) (upd H D (.lst (ms.map T)))):=by
 intro pins s σ H xs us Q I r h;obtain⟨p,ls,kvs,rfl,hq,hk,h64,q⟩:=h;obtain⟨u,rfl,ru⟩:=gD r;cases ru;obtain⟨z,hd,vs,rel,dd⟩:=kQ I.hok hq;obtain⟨o,es,ep,rest⟩:=dd;have hl:ls.length=kvs.length:=by have:=congrArg fo hk;simpa using this.symm
 refine rR h64 (fun A' Q' hA hQ=>SS.zT (vs:=vs) (ep:=ep) (by rw[hA];exact I.ok.hd hc) hd ⟨o,es,rest⟩ (by rw[<- rel.length];exact z) fun s' acc kp g1 g2 e1=>hQ _ (ls.map tx) s' (wB hk rel e1) (ik _) ?_) q;have hg:AllBare s'.gens:=by rw[g1];exact I.bare
 exact I.call' (ch:=[]) g2 (Un.kept kp) (I.hok.kept kp) hg fun _ z=>nomatch z
end
end L2
namespace SN
open PySem PyProof.Rows SS
def iS:Value->Int
 | .int x _=>x
 | _=>0
def El (w:World)(e:Int×Value):Prop:=e.1=hashInt (iS e.2)∧∃ t,e.2 = .int (iS e.2) t
def Els (w:World)(es:List (Int×Value))(ms:List Int):Prop:=(∀ e∈es,El w e)∧(es.map fun e=>iS e.2).Perm ms
theorem Els.perm {w:World}{es es':List (Int×Value)}{ms:List Int}(h:Els w es ms)(p:es'.Perm es):Els w es' ms:=⟨fun e he=>h.1 e (p.mem_iff.mp he),(p.map _).trans h.2⟩
theorem Els.of {w:World}{prog:Program}{es:List (Int×Value)}{ms:List Int}(h:Els w es ms):ElemsOf (ib prog w) es:=fun e he=>by
 obtain⟨h1,t,h2⟩:=h.1 e he;refine⟨⟨iS e.2,?_,h1⟩,?_⟩
 ·rw[h2]
  exact intKind_is prog w _ t
 ·rw[h2]
  rfl
theorem Els.len {w:World}{es:List (Int×Value)}{ms:List Int}(h:Els w es ms):es.length=ms.length:=by
 have:=h.2.length_eq
 rwa [aR] at this
theorem Els.has {w:World}{prog:Program}{es:List (Int×Value)}{ms:List Int}(h:Els w es ms)(k:Int):k∈ms↔∃ e∈es,(ib prog w).is k e.2=true:=by
 rw[<- h.2.mem_iff,au];constructor
 ·rintro⟨e,he,rfl⟩
  obtain⟨_,t,h2⟩:=h.1 e he;refine⟨e,he,?_⟩
  conv=>lhs;arg 3;rw[h2]
  exact intKind_is prog w _ t
 ·rintro⟨e,he,hk⟩
  obtain⟨t,ht⟩:=Value.isInt_shape hk;exact⟨e,he,by rw[ht];rfl⟩
def Rs (t:SetTable):Prop:=(∀ i j,i<j->j<t.place.size->t.place.getD i 0<t.place.getD j 0)∧t.dummies = #[]
theorem uA {xs:Array Nat}{j:Nat}(hr:∀ i k,i<k->k<xs.size->xs.getD i 0<xs.getD k 0):∀ (fuel lo hi:Nat),lo<=hi->hi<=xs.size->hi-lo<=fuel->(∀ i,i<lo->xs.getD i 0<j)->(∀ i,hi<=i->i<xs.size->j<=xs.getD i 0) ->
  SetTable.below.go xs j fuel lo hi<=xs.size∧(∀ i,i<SetTable.below.go xs j fuel lo hi->xs.getD i 0<j)∧(∀ i,SetTable.below.go xs j fuel lo hi<=i->i<xs.size->j<=xs.getD i 0)
 | 0,lo,hi,h1,h2,h3,h4,h5=>by
  have e:lo=hi:=by omega
  subst e;exact⟨h2,h4,h5⟩
 | fuel+1,lo,hi,h1,h2,h3,h4,h5=>by
  unfold SetTable.below.go;by_cases hlt:lo<hi
  ·rw[if_pos hlt]
   dsimp only
   have hm:(lo+hi)/2<xs.size:=by omega
   have e:xs.getD ((lo+hi)/2) j=xs.getD ((lo+hi)/2) 0:=by
    rw[bt,bt,er hm];rfl
   rw[e];by_cases hc:xs.getD ((lo+hi)/2) 0<j
   ·rw[if_pos hc]
    refine uA hr fuel _ hi (by omega) h2 (by omega) (fun i hi'=>?_) h5;rcases du i ((lo+hi)/2) with z | z
    ·exact nq (hr i _ z hm) hc
    ·rw[show i=(lo+hi)/2 by omega];exact hc
   ·rw[if_neg hc]
    refine uA hr fuel lo _ (by omega) (by omega) (by omega) h4 (fun i hi' hs=>?_);rcases du ((lo+hi)/2) i with z | z
    ·have:=hr _ i z hs
     omega
    ·rw[show i=(lo+hi)/2 by omega];omega
  ·rw[if_neg hlt]
   have e:lo=hi:=by omega
   subst e;exact⟨h2,h4,h5⟩
theorem Ap {xs:Array Nat}(j:Nat)(hr:∀ i k,i<k->k<xs.size->xs.getD i 0<xs.getD k 0):SetTable.below xs j<=xs.size∧(∀ i,i<SetTable.below xs j->xs.getD i 0<j)∧(∀ i,SetTable.below xs j<=i->i<xs.size->j<=xs.getD i 0) :=
 uA hr xs.size 0 xs.size (b8 _) (af _) (by omega) (fun i h=>by omega) fun i h1 h2=>by omega
theorem Av {xs:Array Nat}{j p:Nat}(hr:∀ i k,i<k->k<xs.size->xs.getD i 0<xs.getD k 0)(h1:p<=xs.size)(h2:∀ i,i<p->xs.getD i 0<j)(h3:∀ i,p<=i->i<xs.size->j<=xs.getD i 0):SetTable.below xs j=p:=by
 obtain⟨g1,g2,g3⟩:=Ap j hr;rcases Nat.lt_trichotomy (SetTable.below xs j) p with z | z | z
 ·have:=h2 _ z
  have:=g3 _ (af _) (by omega)
  omega
 ·exact z
 ·have:=g2 _ z
  have:=h3 _ (af _) (by omega)
  omega
theorem Bv {xs:Array Nat}{i:Nat}(h:i<xs.size):xs[i]?=some (xs.getD i 0):=by
 rw[bt,er h];rfl
theorem Rs.next {t:SetTable}(h:Rs t){i:Nat}(hi:i<=t.place.size):SetTable.below t.place (if i=0 then 0 else t.place.getD (i-1) 0+1)=i:=by
 refine Av h.1 hi (fun k hk=>?_) (fun k hk hs=>?_)
 ·rw[if_neg (by omega)]
  rcases du k (i-1) with z | z
  ·have:=h.1 k (i-1) z (by omega)
   omega
  ·rw[show k=i-1 by omega];omega
 ·by_cases h0:i=0
  ·rw[if_pos h0];exact b8 _
  ·rw[if_neg h0]
   have:=h.1 (i-1) k (by omega) hs
   omega
theorem pU {t:SetTable}{f:Nat->Int}{h:Int}(hd:t.dummies = #[]):∀ (fuel:Nat) (p:SetTable.Probe) (j:Nat) (d:Option Nat),p.dummy=none->SetTable.probe.go t f h fuel p=some (.empty j d)->t.slot j = .empty∧d=none
 | 0,p,j,d,_,e=>by unfold SetTable.probe.go at e;cases e
 | fuel+1,p,j,d,hp,e=>by
  unfold SetTable.probe.go at e;have hnd:t.slot p.j≠.dummy:=by
   unfold SetTable.slot
   dsimp only
   split
   ·intro z;cases z
   ·rw[hd]
    rw[show SetTable.has #[] p.j=false by unfold SetTable.has;simp];intro z;cases z
  have hadv:∀ q:SetTable.Probe,q.dummy=none->(t.advance q).dummy=none:=fun q hq=>by
   unfold SetTable.advance;split
   ·exact hq
   ·exact hq
  split at e
  ·rename_i hs
   injection e with e
   injection e with e1 e2
   subst e1;exact⟨hs,by rw[<- e2];exact hp⟩
  ·rename_i hs
   exact absurd hs hnd
  ·split at e
   ·cases e
   ·exact pU hd fuel _ j d (hadv p hp) e
theorem Ht {xs:Array Nat}{j:Nat}(hr:∀ i k,i<k->k<xs.size->xs.getD i 0<xs.getD k 0)(hj:∀ i,i<xs.size->xs.getD i 0≠j):∀ i k,i<k->k<(SetTable.insertAt xs (SetTable.below xs j) j).size->(SetTable.insertAt xs (SetTable.below xs j) j).getD i 0<(SetTable.insertAt xs (SetTable.below xs j) j).getD k 0:=by
 obtain⟨g1,g2,g3⟩:=Ap j hr;generalize SetTable.below xs j=p at g1 g2 g3;have hsz:(SetTable.insertAt xs p j).size=xs.size+1:=by
  unfold SetTable.insertAt;simp;omega
 have hat:∀ i,i<xs.size+1->(SetTable.insertAt xs p j).getD i 0=if i<p then xs.getD i 0 else if i=p then j else xs.getD (i-1) 0:=fun i hi=>by
  unfold SetTable.insertAt;rw[bt,bt,bt];by_cases h1:i<p
  ·rw[if_pos h1,mh (by simp;omega),Array.getElem?_push_lt (by simp;omega)]
   simp;rw[er (by omega)];rfl
  ·rw[if_neg h1]
   by_cases h2:i=p
   ·rw[if_pos h2,mh (by simp;omega)]
    rw[show i=(xs.extract 0 p).size by simp;omega,Array.getElem?_push_size];rfl
   ·rw[if_neg h2,Array.getElem?_append_right (by simp;omega)]
    rw[Array.getElem?_extract];simp;rw[show min p xs.size=p by omega];by_cases h3:i-(p+1)<xs.size-p
    ·rw[if_pos h3,show p+(i-(p+1))=i-1 by omega]
    ·omega
 intro i k hik hk;rw[hsz] at hk;rw[hat i (by omega),hat k hk];by_cases a1:i<p
 ·rw[if_pos a1]
  by_cases b1:k<p
  ·rw[if_pos b1];exact hr i k hik (by omega)
  ·rw[if_neg b1]
   have ha:=g2 i a1;by_cases b2:k=p
   ·rw[if_pos b2];exact ha
   ·rw[if_neg b2]
    have:=g3 (k-1) (by omega) (by omega)
    omega
 ·rw[if_neg a1,if_neg (show ¬ k<p by omega),if_neg (show ¬ k=p by omega)]
  by_cases a2:i=p
  ·rw[if_pos a2]
   have h1:=g3 (k-1) (by omega) (by omega);have h2:=hj (k-1) (by omega);omega
  ·rw[if_neg a2]
   exact hr (i-1) (k-1) (by omega) (by omega)
theorem jU (t:SetTable)(n:Nat):Rs (t.standIn n):=by
 refine⟨fun i j hij hj=>?_,rfl⟩;have hj:j<n:=by simpa [SetTable.standIn] using hj
 show (ua n).getD i 0<(ua n).getD j 0;rw[bt,bt,pb,pb];simp[hj,show i<n by omega];exact hij
theorem Jr (t:SetTable)(es:Array (Int×Value))(h:Int)(x:Value)(hr:Rs t):Rs (layNew t es h x).2.1:=by
 unfold layNew;split
 ·rename_i slot wd hf
  show Rs ((t.put slot).1.orStandIn _);unfold SetTable.orStandIn;split
  ·unfold SetTable.freeSlot at hf
   split at hf
   ·rename_i j d hp
    have hp:SetTable.probe.go t (fun _=>h+1) h (10*SetTable.turns t.mask) (t.probeStart h)=some (.empty j d):=hp;obtain⟨h1,h2⟩:=pU hr.2 _ _ j d rfl hp;subst h2
    injection hf with hf
    injection hf with hf _
    have hf:j=slot:=hf;subst hf;refine⟨Ht hr.1 fun i hi e=>?_,?_⟩
    ·have hb:SetTable.below t.place j=i:=Av hr.1 (by omega) (fun k hk=>by rw[<- e];exact hr.1 k i hk hi) (fun k hk hs=>by
      rcases du i k with z | z
      ·have:=hr.1 i k z hs;omega
      ·rw[show k=i by omega,e];exact af _)
     unfold SetTable.slot at h1
     dsimp only at h1
     rw[hb,Bv hi,e] at h1;simp at h1
    ·show (if SetTable.has t.dummies j then _ else t.dummies) = #[]
     rw[hr.2,show SetTable.has #[] j=false by unfold SetTable.has;simp];rfl
   ·cases hf
  ·exact jU _ _
 ·exact jU _ _
theorem Pw {owner:Array (Option Nat)}:∀ n:Nat,(((cf n).filterMap fun j=>(owner.getD j none).map (j,·)).map (·.1)).Pairwise (· < ·):=fun n=>by
 refine dy.mpr (tu (R:=fun a b:Nat=>a<b) (S:=fun a b:Nat×Nat=>a.1<b.1) _ (fun a a' haa b hb b' hb'=>?_) iw);obtain⟨x,_,rfl⟩:=bi.mp hb;obtain⟨y,_,rfl⟩:=bi.mp hb';exact haa
theorem Af (t:SetTable)(es:Array (Int×Value))(n:Nat)(hr:Rs t):(relayAll t es n).2.1.led=t.led∧Rs (relayAll t es n).2.1:=by
 unfold relayAll;split
 ·rename_i t' order hl
  dsimp only
  split
  ·unfold SetTable.relaid at hl
   refine⟨(sU hl).1,?_⟩;unfold SetTable.laid at hl
   cases ho:SetTable.layClean (SetTable.sizeAbove n-1) (es.map (·.1)) with
   | none=>rw[ho] at hl;cases hl
   | some owner =>
    rw[ho] at hl
    injection hl with hl
    injection hl with hl _
    subst hl;refine⟨fun i j hij hj=>?_,rfl⟩;have hp:=Pw (owner:=owner) (SetTable.sizeAbove n-1+1);have hj':j<(((cf (SetTable.sizeAbove n-1+1)).filterMap fun j=>(owner.getD j none).map (j,·)).map (·.1)).length:=by simpa using hj
    have:=gy.mp hp i j (by omega) hj' hij
    show (t8 _).getD i 0<(t8 _).getD j 0;rw[bt,bt,i7,i7,aa (by omega),aa hj'];exact this
  ·exact⟨rfl,jU _ _⟩
 ·exact⟨rfl,jU _ _⟩
def Is (w:World)(h:Heap)(a:Addr)(ms:List Int):Prop :=
 ∃ o es ep t,h.get? a=some o∧o.ExactSet∧o.data = .set es ep t∧Els w es.toList ms∧ms.Nodup∧es.size<scanBound∧t.fits es.size=true∧(byT w=true∨t.led=true)∧Rs t
theorem Is.at {w:World}{h h':Heap}{a:Addr}{ms:List Int}(x:Is w h a ms)(e:∀ o,h.get? a=some o->h'.get? a=some o):Is w h' a ms:=let ⟨o,es,ep,t,ho,r⟩:=x;⟨o,es,ep,t,e o ho,r⟩
theorem Is.there {w:World}{h:Heap}{a:Addr}{ms:List Int}(x:Is w h a ms):∃ o,h.get? a=some o:=let ⟨o,_,_,_,ho,_⟩:=x;⟨o,ho⟩
section
variable {prog:Program}{w:World}{A:Around}{E:Value->Shared->Prop}{s:Shared}
theorem Is.store (prog:Program){a:Addr}{o:Obj}{es es':Array (Int×Value)}{ep:Nat}{t t':SetTable}{h:Heap}{ms:List Int}(ho:h.get? a=some o)(hex:o.ExactSet)(hd:o.data = .set es ep t)(hel:Els w es'.toList ms)(hnd:ms.Nodup)(hb:es'.size<scanBound)(hf:t'.fits es'.size=true)
  (hl:byT w=true∨t'.led=true) (hp:Rs t'):(h.update a (Obj.putSet es' t')).get? a=some { o with data:=.set es' (ep+1) t' }∧Is w (h.update a (Obj.putSet es' t')) a ms:=by
 have hg:=(SetOf_store (knd:=ib prog w) (S':=fun k=>decide (k∈ms)) ho hex hd hel.of (fun k=>by rw[decide_eq_true_iff];exact hel.has k) hb hf).1;exact⟨hg,_,es',ep+1,t',hg,hex,rfl,hel,hnd,hb,hf,hl,hp⟩
theorem yX {a : Addr} {ms : List Int} {k : Int} {tk : Tok} {Q : Bool → Shared → Prop} (hS : Is w s.heap a ms) (hroom : ms.length + 1 < scanBound)
    (h : ∀ h' ms', Heap.SameBut a s.heap h' → Is w h' a ms' → (∀ x, x ∈ ms' ↔ x ∈ ms ∨ x = k) → ms'.length ≤ ms.length + 1 → Q (!decide (k ∈ ms)) { s with heap := h' }) :
    wpAny (model prog w) A (setAddHashed a (.int k tk) (hashInt k)) Q E s := by
  obtain⟨o, es, ep, t, ho, hex, hd, hel, hnd, hb, hf, hl, hp⟩ := hS;have hn : es.size = ms.length := by rw[← hel.len, bb]
  have hkey : (ib prog w).is k (.int k tk) = true := intKind_is prog w k tk;unfold setAddHashed setAddHashedIn;refine wpAny_holding (wpAny_bind (wpAny_setState_of ho hd hf ?_))
  dsimp only
  rw[byScan_of (knd := ib prog w) (x := .int k tk) rfl hb hel.of];simp only [↓reduceIte];unfold setAddByScan;refine wpAny_bind (wpAny_bind (wpAny_rule (wpAny_bind (wpAny_setScan_of (knd := ib prog w) hkey ho hd hf hel.of ?_))))
  cases hr : tq (fun e => (ib prog w).is k e.2) es.toList with
  | some j =>
    dsimp only
    obtain⟨hj, hpj, _⟩ := j9.mp hr;have hm : k ∈ ms := (hel.has (prog := prog) k).mpr ⟨es.toList[j], cz hj, hpj⟩;refine wpAny_pure (wpAny_pure ?_);have z := h s.heap ms (Heap.SameBut.refl a s.heap) ⟨o, es, ep, t, ho, hex, hd, hel, hnd, hb, hf, hl, hp⟩ (fun x => ⟨.inl, fun q => q.elim id fun e => e ▸ hm⟩) (by omega);rw[decide_eq_true hm] at z;exact z
  | none =>
    dsimp only
    have hm : ¬ k ∈ ms := fun z => by
      obtain⟨e, he, q⟩ := (hel.has (prog := prog) k).mp z;have := mi.mp hr e he;rw[q] at this;cases this
    have gw : ∀ (b : Bool) {s₁ : Shared} {Q' : Unit → Shared → Prop}, Q' () s₁ → wpAny (model prog w) A (match b with | true => rule "set.scan.the-table-gave-way" | false => pure ()) Q' E s₁ := fun b s₁ Q' hq => by
      cases b
      · exact wpAny_pure hq
      · exact wpAny_rule hq
    have hperm := layNew_perm t es (hashInt k) (.int k tk);have hfits := layNew_fits t es (hashInt k) (.int k tk);have hled := tO t es (hashInt k) (.int k tk);have hrs := Jr t es (hashInt k) (.int k tk) hp;generalize hL : layNew t es (hashInt k) (.int k tk) = L at hperm hfits hled hrs ⊢;obtain⟨es1, t1, wasDummy, gave⟩ := L
    dsimp only at hperm hfits hled hrs ⊢
    rw[mn] at hperm;have hel1 : Els w es1.toList (ms ++ [k]) := by
      refine Els.perm ⟨fun e he => ?_, ?_⟩ hperm
      · rcases bj.mp he with z | z
        · exact hel.1 e z
        · have e' : e = (hashInt k, .int k tk) := by simpa using z
          rw[e'];exact⟨rfl, tk, rfl⟩
      · rw[bn]
        exact hel.2.append_right _
    have hnd1 : (ms ++ [k]).Nodup := dw.mpr ⟨hnd, by simp, fun x hx y hy e => hm (by have:y=k:=(by simpa using hy);rw[<- this,<- e];exact hx)⟩
    have hsz1 : es1.size = ms.length + 1 := by rw[← bb, hel1.len, aq, b7]
    have hb1 : es1.size < scanBound := by omega
    have fin : ∀ h', Heap.SameBut a s.heap h' → Is w h' a (ms ++ [k]) → Q true { s with heap := h' } := fun h' sb x => by
      have z := h h' (ms ++ [k]) sb x (fun y => by rw[bj, az]) (by rw[aq, b7]; omega);rw[decide_eq_false hm] at z;exact z
    have tail : ∀ t2 : SetTable, t2.fits es1.size = true → (byT w = true ∨ t2.led = true) → Rs t2 → wpAny (model prog w) A (do
        storeSet a es1 t2
        if (!wasDummy && t2.tooFull) = true then do
            (match (relayAll t2 es1 (SetTable.grown es1.size)).2.2 with | true => rule "set.scan.the-table-gave-way" | false => pure ())
            storeSet a (relayAll t2 es1 (SetTable.grown es1.size)).1 (relayAll t2 es1 (SetTable.grown es1.size)).2.1
            pure (some true)
          else pure (some true)) (fun r s' => wpAny (model prog w) A (match r with | some added => pure added | none => setAddHashedIn a (.int k tk) (hashInt k) 99999) Q E s') E s := fun t2 hf2 hl2 hp2 => by
      refine wpAny_bind (wpAny_storeSet_of ho hd ?_ (fits_of_scanBound hb1));obtain⟨ho1, hS1⟩ := Is.store prog ho hex hd hel1 hnd1 hb1 hf2 hl2 hp2;have sb1 := Heap.SameBut.update s.heap a (Obj.putSet es1 t2);split
      · have q1 := relayAll_perm t2 es1 (SetTable.grown es1.size)
        have q2 := relayAll_fits t2 es1 (SetTable.grown es1.size);have q3 := Af t2 es1 (SetTable.grown es1.size) hp2;generalize relayAll t2 es1 (SetTable.grown es1.size) = Rl at q1 q2 q3 ⊢;obtain⟨es2, t3, g2⟩ := Rl
        dsimp only at q1 q2 q3 ⊢
        have hel2 := hel1.perm q1;have hsz : es2.size = es1.size := by rw[← bb, q1.length_eq, bb]
        have hb2 : es2.size < scanBound := by omega
        refine wpAny_bind (gw _ (wpAny_bind (wpAny_storeSet_of ho1 rfl ?_ (fits_of_scanBound hb2))));obtain⟨_, hS2⟩ := Is.store prog ho1 hex rfl hel2 hnd1 hb2 q2 (hl2.imp id fun z => q3.1.trans z) q3.2;exact wpAny_pure (wpAny_pure (fin _ (sb1.trans (Heap.SameBut.update _ a _)) hS2))
      · exact wpAny_pure (wpAny_pure (fin _ sb1 hS1))
    refine wpAny_bind (gw _ ?_);have hl1 : byT w = true ∨ t1.led = true := hl.imp id fun z => hled.trans z
    split
    · refine wpAny_bind (wpAny_pure ?_)
      simp only [↓reduceIte];exact tail t1 hfits hl1 hrs
    · refine wpAny_bind (wpAny_pure ?_)
      simp only [↓reduceIte];exact tail t1 hfits hl1 hrs
theorem Is.fresh (h:Heap):Is w (h.push (bV w)) h.objs.size []:=by
 refine⟨bV w,#[],0,.fresh 0 0 (!byT w),Heap.get?_push_size _ rfl,⟨rfl,rfl,rfl⟩,rfl,⟨fun e he=>by simp at he,by simp⟩,gu,by decide,rfl,?_,⟨fun i j _ h=>absurd h (by show ¬ j<0;omega),rfl⟩⟩;cases byT w
 ·exact .inr rfl
 ·exact .inl rfl
theorem Is.ty {a:Addr}{ms:List Int}(x:Is w s.heap a ms):s.TypeIs (.ref a) "set" := by
 obtain⟨o,_,_,_,ho,hex,_⟩:=x;exact⟨o,ho,hex.1⟩
end
theorem zS {w:World}:∀ L:List (Int×Value),(∀ e∈L,El w e)->IntsAre (L.map (·.2)) (L.map fun e=>iS e.2)
 | [],_=>.nil
 | e::L,h=>by
  obtain⟨_,tk,q⟩:=h e (ar ..);rw[am,am];have r:=zS L fun x hx=>h x (ah _ hx)
  have z:IntsAre (Value.int (iS e.2) tk::L.map (·.2)) (iS e.2::L.map fun e=>iS e.2):=.cons _ _ r;rw[<- q] at z;exact z
section
variable {prog:Program}{w:World}{A:Around}{E:Value->Shared->Prop}{s:Shared}
theorem yM {a:Addr}{ms:List Int}{Q:Value->Shared->Prop}(hS:Is w s.heap a ms)
  (h:∀ (h':Heap) (d:Drawn) (I:Addr) (fp:List Addr) (xs:List Value) (ss:List Int) (St:Nat->Heap->Prop),(∀ A':Around,A'.handled=none->Walks prog w A' I fp [I] xs.length (fun i v=>xs[i]?=some v) St)->St 0 h' ->
   (∀ b o,s.heap.get? b=some o->h'.get? b=some o)->s.heap.objs.size<=I->(∀ b∈fp,b=a∨s.heap.objs.size<=b)->IntsAre xs ss->ss.Perm ms->Q (.ref I) { s with heap:=h',drawn:=d }) :
  wpAny (model prog w) A (pyIter (.ref a)) Q E s:=by
 obtain⟨o,es,ep,t,ho,hex,hd,hel,hnd,hb,hf,hl,hp⟩:=id hS;have hlt:=Heap.lt_size ho;have hps:t.place.size=es.size:=by
  simp only [SetTable.fits,cr,beq_iff_eq] at hf;exact hf.1
 refine wpAny_pyIter_slot hS.ty F.slot_set_iter (wpAny_call_entry F.slot_set_iter hS.ty sR ?_ (F.args_set_iter_1 _));unfold Builtin.«frozenset.__iter__»;refine wpAny_bind (m:=Builtin.Frozenset.slot0 "__iter__" ⟨[.ref a],[]⟩) (wpAny_of_eq (a:=a) rfl ?_)
 unfold Builtin.Frozenset.sizeOf;refine wpAny_bind (wpAny_bind (wpAny_setEntries_of ho hd hf (wpAny_pure ?_)));have hlist:∀ L:List (Int×Value),L.Perm es.toList->IntsAre (L.map (·.2)) (L.map fun e=>iS e.2)∧(L.map fun e=>iS e.2).Perm ms:=fun L hp=>⟨zS L (hel.perm hp).1,(hel.perm hp).2⟩
 have fin:∀ (L:List (Int×Value)) (slots:Nat->Nat),slots 0=0->L.Perm es.toList->(∀ (i:Nat) (s:Shared) (A':Around) (E':Value->Shared->Prop) (Q':Option (Value×Nat)->Shared->Prop),s.heap.get? a=some o->i<=L.length->Q' ((L[i]?).map fun e=>(e.2,slots (i+1))) s->wpAny (model prog w) A' (setNext a (slots i) i ep) Q' E' s) ->
   wpAny (model prog w) A.in1 (setEpoch a >>= fun e=>newFields "set_iterator" [rawInt 0,rawInt 0,.ref a,rawInt (es.size:Int),rawInt (e:Int)] >>= ret) (fun fin s'=>∃ v,fin = .done (.ret v)∧∃ (T:String) (r:Value),s'.TypeIs v T∧typeLookup (.type T) "__next__" = pure (some r)∧Q v s') E s:=fun L slots h0 hL hN=>by
  refine wpAny_bind (wpAny_setEpoch_of ho hd hf ?_);have hI:It (s.heap.push { cls:=.type "set_iterator",data:=.fields #[rawInt 0,rawInt 0,.ref a,rawInt (es.size:Int),rawInt (ep:Int)] }) s.heap.objs.size a (rawInt (slots 0:Int)) 0 es.size ep:=⟨_,Heap.get?_push_size _ rfl,rfl,by rw[h0];rfl⟩
  obtain⟨q1,q2⟩:=hlist L hL;refine wpAny_bind (wpAny_newObj_type (wpAny_pure ⟨_,rfl, "set_iterator",_,⟨_,Heap.get?_push_size _ rfl,rfl⟩,cR.lookup,?_⟩))
  have z:=h (s.heap.push { cls:=.type "set_iterator",data:=.fields #[rawInt 0,rawInt 0,.ref a,rawInt (es.size:Int),rawInt (ep:Int)] }) s.drawn s.heap.objs.size [s.heap.objs.size,a] (L.map (·.2)) _ (fun i h=>h.get? a=some o∧It h s.heap.objs.size a (rawInt (slots i:Int)) i es.size ep) (fun A' hA'=>by
     rw[aR];exact Ce hA' (a7 hlt) hd hf hN) ⟨Heap.get?_push_of_some _ ho,hI⟩ (fun b o e=>Heap.get?_push_of_some _ e) (af _) (fun b hb=>by
     rcases aw.mp hb with rfl | hb
     · exact .inr (af _)
     · exact .inl (az.mp hb)) q1 q2
  exact z
 have hdrw:∀ (Q':Bool->Shared->Prop),Q' (!byT w&&(!t.plain&&decide (es.size>1))) s->wpAny (model prog w) A.in1 (setDrawn a) Q' E s:=fun Q' q=>by
  unfold setDrawn;refine wpAny_bind (wpAny_setState_of ho hd hf ?_)
  dsimp only
  exact wpAny_bind (dP (wpAny_pure q))
 refine wpAny_bind (hdrw _ ?_);by_cases hby:byT w=true
 ·rw[hby]
  simp only [jv,kc,cm,↓reduceIte];refine wpAny_bind (wpAny_pure ?_);refine fin (pickOrder (w.params.setOrder a ep) es).toList (fun _=>0) rfl (pP _ _) fun i s' A' E' Q' ho' hi q=>?_
  unfold setNext;refine wpAny_bind (wpAny_setState_of ho' hd hf ?_)
  dsimp only
  refine wpAny_bind (dP ?_);rw[hby,if_pos rfl,bne_self_eq_false,if_neg ak];unfold setWalk;refine wpAny_bind (wpAny_bind (wpAny_setState_of ho' hd hf ?_))
  dsimp only
  refine wpAny_bind (dP ?_);rw[hby,if_pos rfl];refine wpAny_bind (wpAny_askSetting (wpAny_pure (wpAny_pure ?_)));rw[gv] at q;exact q
 ·have hbf:byT w=false:=jc.mpr hby
  have hld:t.led=true:=hl.resolve_left hby;by_cases h1:(!t.plain&&decide (es.size>1))=false
  ·have hnot:(!byT w&&(!t.plain&&decide (es.size>1)))=false:=by rw[h1];simp
   rw[hnot];simp only [cm,↓reduceIte];refine wpAny_bind (wpAny_pure ?_);have hN:∀ (slot i:Nat) (s':Shared) (A':Around) (E':Value->Shared->Prop) (Q':Option (Value×Nat)->Shared->Prop),s'.heap.get? a=some o ->
       Q' (match es[SetTable.below t.place slot]?,t.place[SetTable.below t.place slot]? with | some (_,x),some j=>some (x,j+1) | _,_=>none) s'->wpAny (model prog w) A' (setNext a slot i ep) Q' E' s':=fun slot i s' A' E' Q' ho' q=>by
     unfold setNext;refine wpAny_bind (wpAny_setState_of ho' hd hf ?_)
     dsimp only
     refine wpAny_bind (dP ?_);rw[hbf,if_neg ak];show wpAny _ _ (if (!t.plain&&decide (es.size>1))=true then _ else _) _ _ s';rw[h1,if_neg ak];refine wpAny_bind (m:=if (!t.led && !es.isEmpty)=true then unsupported "set:maker-not-led" else pure ()) ?_
     rw[hld];simp only [jv,kc,cm,↓reduceIte];exact wpAny_pure (wpAny_pure q)
   refine fin es.toList (fun i=>if i=0 then 0 else t.place.getD (i-1) 0+1) rfl (ik _) fun i s' A' E' Q' ho' hi q=>hN _ i s' A' E' Q' ho' ?_
   rw[bb] at hi;rw[hp.next (by omega)];rw[gv] at q;rcases du i es.size with z | z
   · rw[er z] at q ⊢
     rw[Bv (show i<t.place.size by omega)];exact q
   · rw[nu z] at q ⊢
     exact q
  ·have hyes:(!byT w&&(!t.plain&&decide (es.size>1)))=true:=by rw[hbf,(Bool.not_eq_false _).mp h1];rfl
   rw[hyes,if_pos rfl];have hr:(cf es.size).length=es.size:=dj;refine wpAny_bind (m:=drawOrder es.size (cf es.size)) ?_;have dr:=Gk (prog:=prog) (w:=w) (A:=A.in1) (E:=E) (cf es.size) s;rw[hr] at dr;refine dr _ fun ps d hpp=>?_
   have hpl:ps.length=es.size:=by rw[hpp.length_eq,hr]
   have hs:sizeLine=16777216:=sizeLine_eq;have sb:scanBound=4096:=rfl;refine wpAny_bind (wpAny_newTuple ?_ (by rw[aR];omega));generalize hot:({ cls:=.type "tuple",data:=.seq (ps.map fun j:Nat=>rawInt (j:Int)).toArray }:Obj)=ot
   have hg:(s.heap.push ot).get? s.heap.objs.size=some ot:=Heap.get?_push_size _ (by rw[<- hot];rfl);have ho2:(s.heap.push ot).get? a=some o:=Heap.get?_push_of_some _ ho;refine wpAny_bind (wpAny_setEpoch_of (s:={ s with heap:=s.heap.push ot,drawn:=d }) ho2 hd hf ?_);refine wpAny_bind (wpAny_newObj_type (wpAny_pure ⟨_,rfl, "set_iterator",_,⟨_,Heap.get?_push_size _ rfl,rfl⟩,cR.lookup,?_⟩))
   have hsz:(s.heap.push ot).objs.size=s.heap.objs.size+1:=Heap.size_push _ _;have hfm:(ps.map fun p=>es.getD p (0,Value.none)).Perm es.toList:=by
     have e1:(cf es.size).map (fun p=>es.getD p (0,Value.none))=es.toList:=by
       apply ra
       · simp
       · intro i g1 g2
         have g3:i<es.size:=by simpa using g1
         simp[bt,g3]
     exact (hpp.map _).trans (by rw[e1])
   obtain⟨q1,q2⟩:=hlist _ hfm;rw[br,br] at q1;rw[br] at q2;have hps':∀ p∈ps,p<es.size:=fun p hp=>cx.mp (hpp.mem_iff.mp hp)
   have hgo:∀ (o2:Obj),o2 = { cls:=.type "set_iterator",data:=.fields #[.ref s.heap.objs.size,rawInt 0,.ref a,rawInt (es.size:Int),rawInt (ep:Int)] }->Q (.ref (s.heap.objs.size+1)) { s with heap:=(s.heap.push ot).push o2,drawn:=d }:=fun o2 ho2'=>by
    refine h ((s.heap.push ot).push o2) d (s.heap.objs.size+1) [s.heap.objs.size+1,a,s.heap.objs.size] (ps.map fun p=>(es.getD p (0,Value.none)).2) _ (fun i h=>h.get? a=some o∧h.get? s.heap.objs.size=some ot∧It h (s.heap.objs.size+1) a (.ref s.heap.objs.size) i es.size ep) (fun A' hA'=>by
        rw[aR];exact Ae (ot:=ot) (nt:=0) hA' (a7 (dg hlt)) (a7 (fc _)) hd hf (by rw[<- hot]) hps') ⟨Heap.get?_push_of_some _ ho2,Heap.get?_push_of_some _ hg,?_⟩ (fun b o e=>Heap.get?_push_of_some _ (Heap.get?_push_of_some _ e)) (fm _) (fun b hb=>?_) q1 q2
    · rw[<- hsz]
      exact⟨o2,Heap.get?_push_size _ (by rw[ho2'];rfl),by rw[ho2'],by rw[ho2'];rfl⟩
    · rcases aw.mp hb with rfl | hb
      · exact .inr (fm _)
      · rcases aw.mp hb with rfl | hb
        · exact .inl rfl
        · exact .inr (lu (az.mp hb).symm)
   have z:=hgo _ rfl;rw[<- hsz] at z;exact z
theorem xP {a:Addr}{ms:List Int}{Q:Bool->Shared->Prop}(hS:Is w s.heap a ms)(h:Q false s):wpAny (model prog w) A (Builtin.List.listLengthHint (.ref a)) Q E s:=by
 unfold Builtin.List.listLengthHint;refine wpAny_bind (wpAny_specialOf hS.ty F.slot_set_len.lookup ?_);generalize hid:("set.__len__" : String)=id0
 wp_delta
 rw[show splitId id0=some ("set", "__len__") from by subst hid;decide +kernel]
 subst hid;refine wpAny_bind (wpAny_isInstance (T := "set") (b:=true) hS.ty sub_set_self ?_)
 refine wpAny_ite_split (fun hab=>absurd hab (by decide)) (fun _=>?_);refine wpAny_ite_split (fun _=>?_) (fun hab=>absurd (by decide +kernel) hab);refine wpAny_bind (wpAny_typeOf hS.ty ?_);exact wpAny_pure h
theorem nY {a:Addr}{ms:List Int}{R:Result->Shared->Prop}(hh:A.handled=none)(hS:Is w s.heap a ms)(hz:ms.length<=sizeLine)(S:Addr)(res:Value)(h1:S≠a)(hSl:s.heap.get? S=some { cls:=.type "list",data:=.seq #[] })
  (hR:∀ s' acc' c' ss,(∀ b o,b≠S->s.heap.get? b=some o->s'.heap.get? b=some o)->s'.gens=s.gens->s'.os=s.os->s'.heap.get? S=some { cls:=.type "list",dict:=none,data:=.seq acc' c',slots:=#[] }->IntsAre acc'.toList ss->ss.Perm ms->R (.ok (.ret res)) s') :
  wpAny (model prog w) A.in1 (Builtin.List.listExtendWith (.ref S) (.ref a) res)
   (fun fin s'=>match fin with | .done f=>R (.ok f) s' | .again c'=>c'.quiet=true∧codeAny (model prog w) A c' R s') (fun e s'=>R (.error e) s') s:=by
 unfold Builtin.List.listExtendWith;refine wpAny_bind (wpAny_typeOf hS.ty ?_);have g1:Builtin.List.listSameRef (.ref S) (.ref a)=false:=by simp[Builtin.List.listSameRef,h1]
 have g2:(Value.type "set" == Value.type "list")=false:=by decide
 have g3:(Value.type "set" == Value.type "tuple")=false:=by decide
 simp only [g1,g2,g3,gq,cm,if_false];refine wpAny_bind (yM (A:=A.in1) hS fun h2 d I fp xs ss St W st0 kp hIs hfp hss hpm=>?_);have hlt:=Heap.lt_size hSl;have hSI:S≠I:=a7 (bz hlt hIs);have hSf:S∉fp:=fun z=>by
  rcases hfp S z with e | e
  ·exact h1 e
  ·exact absurd hlt (nw.mpr e)
 have hS2:Is w h2 a ms:=hS.at fun o e=>kp a o e
 refine wpAny_bind (wpAny_holding (xP (s:={ s with heap:=h2,drawn:=d }) hS2 ?_));have WS:=(W A.in1 hh).toS;have hxl:xs.length=ms.length:=by rw[hss.length,hpm.length_eq]
 have last:∀ (h0:Heap) (c0:Nat),(∀ b o,b≠S->h2.get? b=some o->h0.get? b=some o)->h0.get? S=some { cls:=.type "list",data:=.seq #[] c0 } ->
   wpAny (model prog w) A.in1 (again (.builtin "list.extend.loop" ⟨[.ref S,.ref I,res],[]⟩))
    (fun fin s'=>match fin with | .done f=>R (.ok f) s' | .again c'=>c'.quiet=true∧codeAny (model prog w) A c' R s') (fun e s'=>R (.error e) s') { s with heap:=h0,drawn:=d }:=fun h0 c0 hk0 hS0=>by
  refine wpAny_pure ⟨plainId_quiet F.plain_extend_loop _,codeAny_extend_loopS WS (by omega) S hSf res xs.length 0 _ #[] c0 rfl (b8 _) ?_ hS0 (ItemsOf.nil _) fun s' acc' c' hm hS' hacc=>?_⟩
  ·exact (W A.in1 hh).frame 0 h2 h0 st0 fun b hb o e=>hk0 b o (fun z=>hSf (z▸hb)) e
  ·refine hR s' acc' c' ss (fun b o hb e=>?_) hm.gens hm.os hS' (by rw[Ag hacc];exact hss) hpm
   by_cases hbI:b=I
   ·subst hbI
    exact absurd (Heap.lt_size e) (nw.mpr hIs)
   ·exact hm.heap b o (by simp[hb,hbI]) (hk0 b o hb (kp b o e))
 refine wpAny_ite_split (fun _=>?_) (fun hab=>absurd (by decide +kernel) hab);refine wpAny_bind (wpAny_rule ?_);have hSl2:h2.get? S=some { cls:=.type "list",data:=.seq #[] }:=kp S _ hSl
 refine wpAny_bind (m:=((do updateSeq S (fun z=>z.push .none);updateSeq S (fun z=>z.pop)):Sem Unit)) (wpAny_bind (wpAny_updateSeq (s:={ s with heap:=h2,drawn:=d }) hSl2 rfl ?_));have k1:=Heap.get?_update_self (Obj.mapSeq (fun z=>z.push .none)) hSl2 rfl;refine wpAny_updateSeq k1 rfl ?_;have k2:=Heap.get?_update_self (Obj.mapSeq (fun z=>z.pop)) k1 rfl;exact last _ _ (fun b o hb e=>(Heap.get?_update_other _ _ (Ne.symm hb)).trans ((Heap.get?_update_other _ _ (Ne.symm hb)).trans e)) k2
theorem mC {a:Addr}{ms:List Int}{Q:List Value->Shared->Prop}(hh:A.handled=none)(hS:Is w s.heap a ms)(hz:ms.length<=sizeLine)
  (hQ:∀ s' vs ss,(∀ b o,s.heap.get? b=some o->s'.heap.get? b=some o)->s'.gens=s.gens->s'.os=s.os->IntsAre vs ss->ss.Perm ms->Q vs s'):wpAny (model prog w) A (collect (.ref a)) Q E s:=by
 have hlt:=Heap.lt_size hS.there.choose_spec;unfold collect;refine wpAny_bind (wpAny_runValue (codeAny_builtin F.entry_proto_collect ?_));rw[Around.under_plainId F.plain_proto_collect];refine wpAny_bind (m:=newList []) (wpAny_newObj_type (wpAny_pure ⟨plainId_quiet F.plain_list_iadd _,codeAny_builtin F.entry_list_iadd ?_⟩));rw[Around.under_plainId F.plain_list_iadd];have hSl:(s.heap.push { cls:=.type "list",data:=.seq #[] }).get? s.heap.objs.size=some { cls:=.type "list",data:=.seq #[] }:=Heap.get?_push_size _ rfl
 have go:∀ R:Result->Shared->Prop,(∀ s' acc' c' ss,(∀ b o,s.heap.get? b=some o->s'.heap.get? b=some o)->s'.gens=s.gens->s'.os=s.os->s'.heap.get? s.heap.objs.size=some { cls:=.type "list",dict:=none,data:=.seq acc' c',slots:=#[] }->IntsAre acc'.toList ss->ss.Perm ms->R (.ok (.ret (.ref s.heap.objs.size))) s') ->
   wpAny (model prog w) A.in1 (Builtin.List.listExtendWith (.ref s.heap.objs.size) (.ref a) (.ref s.heap.objs.size))
    (fun fin s'=>match fin with | .done f=>R (.ok f) s' | .again c'=>c'.quiet=true∧codeAny (model prog w) A c' R s') (fun e s'=>R (.error e) s') { s with heap:=s.heap.push { cls:=.type "list",data:=.seq #[] } }:=fun R hR =>
  nY (A:=A) (s:={ s with heap:=s.heap.push { cls:=.type "list",data:=.seq #[] } }) hh (hS.at fun o e=>Heap.get?_push_of_some _ e) hz s.heap.objs.size (.ref s.heap.objs.size) (fh hlt) hSl
   fun s' acc' c' ss kp g1 g2 e1 e2 e3=>hR s' acc' c' ss (fun b o e=>kp b o (a7 (Heap.lt_size e)) (Heap.get?_push_of_some _ e)) g1 g2 e1 e2 e3
 refine go (fun r s'=>match r with
  | .ok (.ret v)=>wpAny (model prog w) A (match v with
   | .ref a=>do
    match (<- load a).data with
    | .seq xs _=>pure xs.toList
    | _=>unsupported "internal:collect"
   | _=>unsupported "internal:collect") Q E s'
  | .ok _=>False
  | .error e=>E e s') fun s' acc' c' ss kp g1 g2 hS' e2 e3=>?_
 refine wpAny_bind (m:=load s.heap.objs.size) (wpAny_load hS' (wpAny_pure ?_));exact hQ s' acc'.toList ss kp g1 g2 e2 e3
end
end SN
namespace L2
open PySem PySem.Spec PyProof.Rows
namespace SEN
def Of (w:World)(h:Heap)(D:Addr)(ls:List Int)(i:Nat):Prop:=∃ ms,SN.Is w h D ms∧(∀ x,x∈ms↔x∈ls.take i)∧ms.length<=i
theorem Of.at {w:World}{h h':Heap}{D:Addr}{ls:List Int}{i:Nat}(x:Of w h D ls i)(k:∀ o,h.get? D=some o->h'.get? D=some o):Of w h' D ls i:=let ⟨ms,a,b⟩:=x;⟨ms,a.at k,b⟩
section
variable {prog:Program}{w:World}{A:Around}{R:Result->Shared->Prop}{J:Addr}{fp wr:List Addr}{G:Array GenState->Array GenState->Prop}{n:Nat}{P:Nat->Value->Prop}{St:Nat->Shared->Prop}
theorem Ot (W:WalksS prog w A.in1 J fp wr G n P St){D:Addr}(hD:D∉fp)(ls:List Int)(hv:∀ i v,P i v->∃ t,v=Value.int (ls.getD i 0) t)(hn:n+1<scanBound)(hnl:n<=ls.length) :
  ∀ (k i:Nat) (s:Shared),n-i=k->i<=n->St i s->Of w s.heap D ls i ->
   (∀ s',Moved (D::wr) G s s'->Of w s'.heap D ls n->R (.ok (.ret .none)) s')->codeAny (model prog w) A (.builtin "set.update.loop" ⟨[.ref D,.ref J],[]⟩) R s:=by
 have hDw:D∉wr:=fun z=>hD (W.sub _ z)
 have up:∀ b∈wr,b∈D::wr:=fun b hb=>.tail _ hb
 intro k
 induction k with
 | zero =>
  intro i s hk hi st hs hR;obtain rfl:i=n:=by omega
  refine codeAny_builtin de ?_;rw[Around.under_plainId cc];refine wpAny_bind (m:=pyNext (.ref J)) (W.done s _ _ st fun s2 mv=>?_);exact (show wpAny _ A.in1 (ret Value.none) _ _ s2 from wpAny_pure (hR s2 (mv.mono up) (hs.at fun o e=>mv.heap D o hDw e)))
 | succ k ih =>
  intro i s hk hi st hs hR;have hlt:i<n:=by omega
  refine codeAny_builtin de ?_;rw[Around.under_plainId cc];refine wpAny_bind (m:=pyNext (.ref J)) (W.item i s _ _ hlt st fun v s2 pv st2 mv=>?_);obtain⟨t,rfl⟩:=hv i v pv;have hs2:=hs.at fun o e=>mv.heap D o hDw e
  refine wpAny_bind (m:=holding [Value.int (ls.getD i 0) t] (setAdd D (.int (ls.getD i 0) t))) (wpAny_holding ?_);unfold setAdd;refine wpAny_holding (wpAny_bind ((ib prog w).pyHash (k:=ls.getD i 0) (intKind_is _ _ _ _) ?_));obtain⟨ms,hi1,hi2,hi3⟩:=hs2;refine SN.yX (s:={ s2 with toks:=s2.toks+1 }) hi1 (by omega) fun h3 ms3 sb i3 m3 l3=>?_
  have x4:Of w h3 D ls (i+1):=by
   refine⟨ms3,i3,fun x=>?_,by omega⟩;have e:ls.take (i+1)=ls.take i++[ls.getD i 0]:=by
    rw[cn,aj,aa (by omega)];rfl
   rw[m3,hi2,e,bj,az]
  refine wpAny_pure ⟨plainId_quiet cc _,ih (i+1) _ (by omega) hlt (W.frame _ s2 _ _ st2 (fm _) fun b hb o e=>(sb.2 b fun z=>hD (z▸hb)).trans e) x4 fun s5 m5 x5=>?_⟩;refine hR s5 (Moved.trans W.gtrans ((mv.mono up).then_heap (fm _) fun b o hb e=>(sb.2 b fun z=>hb (z▸.head _)).trans e) m5) x5
variable {E:Value->Shared->Prop}{s:Shared}
theorem rY {l:Addr}{its:Array Value}{ls:List Int}{Q:Value->Shared->Prop}(hh:A.handled=none)(hl:s.heap.IsList l its)(hv:∀ i v,its[i]?=some v->∃ t,v=Value.int (ls.getD i 0) t)(hn:its.size+1<scanBound)(hnl:its.size<=ls.length)
  (h:∀ (h':Heap) (tk:Nat),Of w h' s.heap.objs.size ls its.size->(∀ b o,s.heap.get? b=some o->h'.get? b=some o)->Q (.ref s.heap.objs.size) { s with heap:=h',toks:=tk }) :
  wpAny (model prog w) A (call (.type "set") [.ref l]) Q E s:=by
 obtain⟨mc,mt,f0⟩:=F.called_set.mro;have f1:=F.called_set.made;have f2:=F.called_set.sub;have f3:=F.called_set.notType;have f4:=F.called_set.canCreate;have f5:=F.typeCall_set_1 (.ref l);refine wpAny_call (codeAny_of_tree (show wpAny _ _ (callAny (.type "set") _) _ _ _ from wpAny_pure ⟨Code.quiet_builtin _ (by decide +kernel),codeAny_builtin F.entry_type_call ?_⟩))
 rw[Around.under_plain (weight_type_call_type "set" [.ref l] []) rfl]
 repeat (any_goals (first | wp_step | assumption))
 refine codeAny_mono (SS.wN (.ref l) (E:=E) (Q₁:=fun ob s1=>ob = .ref s.heap.objs.size∧s1 = { s with heap:=s.heap.push (SS.bV w) }) ⟨rfl,rfl⟩) fun r s1 hr=>?_
 cases r with
 | error e=>exact hr
 | ok fl =>
  cases fl with
  | ret ob =>
   obtain⟨rfl,rfl⟩:=hr;generalize hob:SS.bV w=ob;have hD:(s.heap.push ob).get? s.heap.objs.size=some ob:=Heap.get?_push_size _ (by rw[<- hob];rfl);have hT:Shared.TypeIs { s with heap:=s.heap.push ob } (.ref s.heap.objs.size) "set" := ⟨_,hD,by rw[<- hob];rfl⟩
   have f6:=F.called_set.init.lookup;have f7:=F.called_set.init.bind (.ref s.heap.objs.size)
   repeat (any_goals (first | wp_step | assumption))
   refine codeAny_mono (codeAny_call_builtin (R:=wants (fun r s2=>r = .none∧∃ h' tk,s2 = { s with heap:=h',toks:=tk }∧Of w h' s.heap.objs.size ls its.size∧∀ b o,s.heap.get? b=some o->h'.get? b=some o) E)
    F.called_set.init.plain F.entry_set_init (check_set_init_1 hT ?_)) fun r2 s2 hr2=>?_
   ·obtain⟨⟨oc,od,odt,osl⟩,hol,hcl,nl,hdl⟩:=id hl
    simp only at hcl hdl;subst hcl hdl;have hol':(s.heap.push ob).get? l=some { cls:=.type "list",dict:=od,data:=.seq its nl,slots:=osl }:=Heap.get?_push_of_some _ hol
    have f8:=F.sub_list_set;have f9:=F.sub_list_frozenset;have f10:(Value.type "list" == Value.type "dict")=false:=by decide
    have hl1:(s.heap.push ob).IsList l its:=⟨_,hol',rfl,nl,rfl⟩;subst hob;unfold Builtin.«set.__init__» noKeywords Builtin.Frozenset.updateFrom;generalize hPI:pyIter=PI
    wp_walk
    subst hPI;refine wpAny_pyIter_list hl1 ?_;refine wpAny_bind (wpAny_runValue ?_);have hlt:l<s.heap.objs.size:=Heap.lt_size hol;have hh3:A.in1.in1.in1.handled=none:=by simp[hh]
    have hsz:(s.heap.push (SS.bV w)).objs.size=s.heap.objs.size+1:=Heap.size_push _ _;have hne:l≠(s.heap.push (SS.bV w)).objs.size:=by rw[hsz];exact a7 (dg hlt)
    have hfp:s.heap.objs.size∉[(s.heap.push (SS.bV w)).objs.size,l]:=by
     rw[hsz];intro z;rcases aw.mp z with e | e
     ·exact a7 (fc _) e
     ·exact fh hlt (az.mp e)
    refine Ot ((Walks.list hh3 _ l hne its).toS) (D:=s.heap.objs.size) hfp ls hv hn hnl (its.size-0) 0 _ (by omega) (b8 _) ⟨⟨_,Heap.get?_push_size _ rfl,rfl,rfl⟩,hl1.push _⟩ ?_ fun s3 mv x3=>?_
    ·have hg:((s.heap.push (SS.bV w)).push { cls:=.type "list_iterator",data:=.fields #[.ref l,.int 0 0] }).get? s.heap.objs.size=some (SS.bV w):=Heap.get?_push_of_some _ hD
     exact⟨[],(SN.Is.fresh s.heap).at fun o e=>Heap.get?_push_of_some _ e,fun x=>by simp,b8 _⟩
    ·obtain⟨h3,g3,d3,tk3,os3⟩:=s3
     obtain rfl:g3=s.gens:=mv.gens;obtain rfl:d3=s.drawn:=mv.drawn;obtain rfl:os3=s.os:=mv.os;refine wpAny_pure (show wpAny _ _ (ret Value.none) _ _ _ from wpAny_pure ⟨rfl,h3,tk3,rfl,x3,fun c o e=>?_⟩);have hc:=Heap.lt_size e;exact mv.heap c o (show c∉[s.heap.objs.size,(s.heap.push (SS.bV w)).objs.size] by
      rw[hsz];intro z;rcases aw.mp z with e | e
      ·exact a7 hc e
      ·exact a7 (dg hc) (az.mp e)) (Heap.get?_push_of_some _ (Heap.get?_push_of_some _ e))
   ·cases r2 with
    | error e=>exact hr2
    | ok fl2 =>
     cases fl2 with
     | ret r =>
      obtain⟨rfl,h3,tk,rfl,x3,k3⟩:=hr2
      repeat (any_goals (first | wp_step | assumption))
      exact h _ _ x3 k3
     | _=>exact hr2.elim
  | _=>exact hr.elim
end
end SEN
def Hu (w:World)(D:Addr)(ms:List Int):HO:=.ext fun h=>SN.Is w h D ms
theorem Jw {w:World}{h:Heap}{D:Addr}{ms:List Int}(x:SN.Is w h D ms):ms.Nodup:=let ⟨_,_,_,_,_,_,_,_,n,_⟩:=x;n
section
variable {X:Cx}
theorem Qc {pins:List (Addr×Obj)}{σ:St}{H:Hp}{s:Shared}{D:Addr}{ms:List Int}(I:Inv X pins σ H s)(h:H D=some (Hu X.w D ms)):SN.Is X.w s.heap D ms:=by
 obtain⟨x,_⟩:=(show cH X.prog X.w H s.heap D (Hu X.w D ms) from I.hok D _ h);exact x
theorem Ke (hc:X.calm=true):eP X (.type "set") (fun xs H Q=>∃ (p:Addr) (ns:List Int),xs=[.ref p]∧SqL X.K H p (ns.map V.int)∧ns.length+1<4096∧∀ (D:Addr) (ms:List Int),H D=none->ms.Nodup->ms.length<=ns.length->(∀ x,x∈ms↔x∈ns)->Q (.ref D) (upd H D (Hu X.w D ms))):=by
 intro pins s σ H xs us Q I r h;obtain⟨p,ns,rfl,hq,hz,q⟩:=h;obtain⟨u,rfl,ru⟩:=gD r;cases ru;obtain⟨its,rv,pl,_⟩:=I.list hq;have hlen:=rv.length;rw[aR] at hlen;refine SEN.rY (I.ok.hd hc) pl.isList (ls:=ns) (fun i v e=>?_) (by rw[a8];unfold scanBound;omega) (by rw[a8];omega) fun h' tk x k=>?_
 ·have e:its[i]?=some v:=by simpa using e
  have hi:i<ns.length:=by have:=(ag.mp e).1;omega
  obtain⟨u',e1,q1⟩:=rv.get (i:=i) (x:=V.int ns[i]) (by rw[al,aa hi];rfl);rw[e] at e1;obtain rfl:=ba e1;obtain⟨t,rfl⟩:=q1;exact⟨t,by rw[aj,aa hi];rfl⟩
 obtain⟨ms,i1,i2,i3⟩:=x;have hf:H s.heap.objs.size=none:=I.hok.fresh (af _);refine⟨.ref s.heap.objs.size,_,I.laid (t':=tk) k (af _) (o:=Hu X.w s.heap.objs.size ms) ⟨i1,i1.there,fun h1 h2 x1 kk=>x1.at kk⟩,rfl,q _ ms hf (Jw i1) (by rw[a8] at i3;omega) fun x=>?_⟩;rw[i2,a8,<- hlen,da]
theorem yC (hc:X.calm=true):eP X (.builtin "sorted") (fun xs H Q=>∃ (p:Addr) (ns:List Int),xs=[.ref p]∧H p=some (Hu X.w p ns)∧ns.length<64∧∀ (ms:List Int) (D:Addr),H D=none->ms.Perm ns->ms.Pairwise (·<=·)->Q (.ref D) (upd H D (.lst (ms.map V.int)))):=by
 intro pins s σ H xs us Q I r h;obtain⟨p,ns,rfl,hq,h64,q⟩:=h;obtain⟨u,rfl,ru⟩:=gD r;cases ru;have hs:sizeLine=16777216:=sizeLine_eq;have hz:ns.length<=sizeLine:=by omega
 refine Calls.call_function_entry kind_sorted plain_sorted entry_sorted (args_sorted1 _) ?_;unfold Builtin.«sorted»;refine wpAny_bind (m:=checkCount "sorted" 1 1 _) (wpAny_pure (wpAny_bind (SN.mC (I.ok.hd hc) (Qc I hq) hz fun s1 vs ss kp g1 g2 hS hp=>?_)))
 have hg:AllBare s1.gens:=by rw[g1];exact I.bare
 have I1:Inv X pins σ H s1:=I.call' (ch:=[]) g2 (Un.kept kp) (I.hok.kept kp) hg fun _ z=>nomatch z
 have hvl:vs.length=ns.length:=by rw[hS.length,hp.length_eq]
 refine wpAny_bind (wpAny_newList ?_ (by rw[hvl];exact hz));have e2:(s1.heap.push (seqObj "list" vs.toArray 0)).get? s1.heap.objs.size=some (seqObj "list" vs.toArray 0):=Heap.get?_push_size _ rfl
 show wpAny _ _ _ _ _ { s1 with heap:=s1.heap.push (seqObj "list" vs.toArray 0) }
 refine wpAny_bind (wpAny_holding (wpAny_call_entry slot_list_sort ⟨_,e2,rfl⟩ entry_list_sort (list_sort_tree e2 hS (by omega) fun out ns' a1 a2 a3=>⟨_,rfl,?_⟩) (args_list_sort _)));obtain⟨e,he⟩:=sortedHeap_at (out:=out) e2;have hp':ns'.Perm ns:=a2.trans hp;refine wpAny_pure ⟨_,rfl,⟨.ref _,_,I1.laid (t':=s1.toks) (fun b o eo=>?_) (af _) (o:=.lst (ns'.map V.int)) ⟨?_,out.toList,e,pH a1,by simpa using he⟩,rfl,q _ _ (I1.hok.fresh (af _)) hp' a3⟩⟩
 ·have hlt:=Heap.lt_size eo
  rw[sortedHeap_old (a7 hlt) (by rw[size_push'];exact dg hlt)];exact Heap.get?_push_of_some _ eo
 ·rw[aR,hp'.length_eq]
  exact hz
end
end L2
namespace L2
open PySem PyProof.Rows
section
variable {X:Cx}
end
open PySem.Spec
section
variable {X:Cx}
end
end L2
namespace L2
open PySem
section
variable {X:Cx}
theorem Kn {st:Stmt}{t t':TS}(h:PS X st t)(hw:∀ (D:kK) (σ:St) (H:Hp),t' D σ H->t D σ H):PS X st t':=fun pins s σ H D I q=>h pins s σ H D I (hw D σ H q)
end
open PyProof.Rows
section
variable {X:Cx}
end
open PySem.Spec
section
variable {X:Cx}
end
end L2
namespace K40
open PySem L2
seal L2.PSs L2.PS L2.PE L2.PA L2.PT L2.PW L2.PI L2.PG L2.PGs L2.PO L2.PTy L2.PH L2.OpR L2.eP L2.IxR L2.SlR L2.UnR L2.Xf
def top (i:Nat):Stmt:=lz.main.body.getD i (.Pass ⟨0,0,0,0⟩)
abbrev cX:Stmt:=top 44
abbrev iF:Stmt:=top 45
abbrev gN:Stmt:=top 46
abbrev bH:Stmt:=top 47
abbrev bI:Stmt:=top 48
abbrev dB:Stmt:=top 49
abbrev eF:Stmt:=top 50
abbrev dR:Stmt:=top 11
abbrev cZ:Stmt:=top 12
abbrev iE:Stmt:=top 13
abbrev jQ:Stmt:=top 14
abbrev dD:Stmt:=top 15
abbrev cT:Stmt:=top 16
abbrev iC:Stmt:=top 17
abbrev eV:Stmt:=top 21
abbrev gL:Stmt:=Qy (top 22) 0
abbrev gJ:Stmt:=top 23
abbrev jL:Stmt:=top 24
abbrev gY:Stmt:=top 25
abbrev mJ:Stmt:=top 26
abbrev gT:Stmt:=top 27
abbrev fD:Stmt:=top 28
abbrev iB:Stmt:=top 29
abbrev fO:Stmt:=top 31
abbrev eE:Stmt:=top 32
abbrev dU:Stmt:=top 33
abbrev eQ:Stmt:=top 34
abbrev jK:Stmt:=top 36
abbrev gI:Stmt:=top 37
abbrev dA:Stmt:=top 52
abbrev bY:Stmt:=top 53
abbrev fQ:Stmt:=top 55
abbrev gK:Stmt:=top 56
abbrev cY:Stmt:=top 57
abbrev iG:Stmt:=top 58
abbrev jS:Stmt:=top 59
abbrev fB:Stmt:=top 60
abbrev fE:Stmt:=top 61
abbrev eY:Stmt:=top 62
abbrev fR:Stmt:=top 63
abbrev iH:Stmt:=top 64
abbrev jF:Stmt:=top 65
abbrev dY:Stmt:=top 66
abbrev dG:Stmt:=top 68
abbrev eU:Stmt:=top 69
abbrev eJ:Stmt:=top 70
abbrev cN:Stmt:=top 71
abbrev dJ:Stmt:=top 72
abbrev eZ:Stmt:=top 73
abbrev dC:Stmt:=top 74
abbrev cJ:Stmt:=top 75
abbrev lW:Stmt:=top 76
theorem pG:aS ["place", "last", "times"] ["place", "last"] (aD cX):=⟨rfl,rfl,rfl,by decide +kernel,rfl,by decide +kernel,by decide +kernel⟩
theorem cO:aS ["number", "prime", "last", "rest", "last_times", "times", "quotient", "next_rest", "more_times"] ["number", "prime"] (aD iF):=⟨rfl,rfl,rfl,by decide +kernel,rfl,by decide +kernel,by decide +kernel⟩
theorem tP:aS ["row", "top", "back", "prime", "times"] ["row", "top", "back", "prime"] (aD gN):=⟨rfl,rfl,rfl,by decide +kernel,rfl,by decide +kernel,by decide +kernel⟩
def vL:Scope:={ kind:=a6,names:=[ (ac ".0",ai),(ac "number",ai),(ac "above",ai),(ac "times",bc)],isGenerator:=false,isCoroutine:=false,more:=[]:cy }
theorem xV:zI ["row", "top", "back", "prime", "times"] ["number", "above", "row", "top", "back", "prime", "times"] (aD gN) vL "number" "above" := ⟨rfl,by decide +kernel,by decide +kernel,rfl,rfl,by decide +kernel,rfl,rfl,rfl,by decide +kernel,rfl,by decide +kernel,by decide +kernel⟩
theorem cS:aS ["numbers", "place", "number"] ["numbers"] (aD bH):=⟨rfl,rfl,rfl,by decide +kernel,rfl,by decide +kernel,by decide +kernel⟩
theorem bF:aS ["square", "prime", "rows", "rest", "place", "top", "back"] ["square", "prime"] (aD bI):=⟨rfl,rfl,rfl,by decide +kernel,rfl,by decide +kernel,by decide +kernel⟩
def kA:Scope:={ kind:=a6,names:=[ (ac ".0",ai),(ac "row",ai),(ac "prime",bc)],isGenerator:=false,isCoroutine:=false,more:=[]:cy }
theorem kG:bS ["square", "prime", "rows", "rest", "place", "top", "back"] ["row", "square", "prime", "rows", "rest", "place", "top", "back"] (aD bI) kA "row" := ⟨rfl,by decide +kernel,by decide +kernel,rfl,by decide +kernel,rfl,rfl,by decide +kernel,rfl,by decide +kernel,by decide +kernel⟩
def kC:Scope:={ kind:=a6,names:=[ (ac ".0",ai),(ac "number",ai),(ac "prime",bc)],isGenerator:=false,isCoroutine:=false,more:=[]:cy }
theorem kJ:bS ["square", "prime", "rows", "rest", "place", "top", "back"] ["number", "square", "prime", "rows", "rest", "place", "top", "back"] (aD bI) kC "number" := ⟨rfl,by decide +kernel,by decide +kernel,rfl,by decide +kernel,rfl,rfl,by decide +kernel,rfl,by decide +kernel,by decide +kernel⟩
def jX:Scope:={ kind:=a6,names:=[ (ac ".0",ai),(ac "row",ai),(ac "lowered",bo),(ac "back",bc),(ac "prime",bc),(ac "top",bc)],isGenerator:=false,isCoroutine:=false,more:=[]:cy }
theorem kI:bS ["square", "prime", "rows", "rest", "place", "top", "back"] ["row", "square", "prime", "rows", "rest", "place", "top", "back"] (aD bI) jX "row" := ⟨rfl,by decide +kernel,by decide +kernel,rfl,by decide +kernel,rfl,rfl,by decide +kernel,rfl,by decide +kernel,by decide +kernel⟩
theorem fW:aS ["square", "bound", "row"] ["square"] (aD dB):=⟨rfl,rfl,rfl,by decide +kernel,rfl,by decide +kernel,by decide +kernel⟩
def nX:Scope:={ kind:=a6,names:=[ (ac ".0",ai),(ac "number",ai),(ac "abs",bo)],isGenerator:=false,isCoroutine:=false,more:=[]:cy }
theorem oW:bS ["square", "bound", "row"] ["number", "square", "bound", "row"] (aD dB) nX "number" := ⟨rfl,by decide +kernel,by decide +kernel,rfl,by decide +kernel,rfl,rfl,by decide +kernel,rfl,by decide +kernel,by decide +kernel⟩
theorem bJ:aS ["square", "bound", "result", "modulus", "place", "times", "prime", "lacking"] ["square"] (aD eF):=⟨rfl,rfl,rfl,by decide +kernel,rfl,by decide +kernel,by decide +kernel⟩
theorem qS:aS ["kinds"] ["kinds"] (aD dR):=⟨rfl,rfl,rfl,by decide +kernel,rfl,by decide +kernel,by decide +kernel⟩
theorem pO:aS ["length", "kinds"] ["length", "kinds"] (aD cZ):=⟨rfl,rfl,rfl,by decide +kernel,rfl,by decide +kernel,by decide +kernel⟩
theorem Cs:aS ["kinds"] ["kinds"] (aD iE):=⟨rfl,rfl,rfl,by decide +kernel,rfl,by decide +kernel,by decide +kernel⟩
theorem oO:aS ["word", "kinds", "known", "sign"] ["word", "kinds"] (aD jQ):=⟨rfl,rfl,rfl,by decide +kernel,rfl,by decide +kernel,by decide +kernel⟩
theorem sI:aS ["text", "length"] ["text", "length"] (aD dD):=⟨rfl,rfl,rfl,by decide +kernel,rfl,by decide +kernel,by decide +kernel⟩
def nM:Scope:={ kind:=a6,names:=[ (ac ".0",ai),(ac "place",ai),(ac "length",bc),(ac "text",bc)],isGenerator:=false,isCoroutine:=false,more:=[]:cy }
theorem oQ:bS ["text", "length"] ["place", "text", "length"] (aD dD) nM "place" := ⟨rfl,by decide +kernel,by decide +kernel,rfl,by decide +kernel,rfl,rfl,by decide +kernel,rfl,by decide +kernel,by decide +kernel⟩
theorem hJ:aS ["text", "length", "size", "around"] ["text", "length"] (aD cT):=⟨rfl,rfl,rfl,by decide +kernel,rfl,by decide +kernel,by decide +kernel⟩
def mS:Scope:={ kind:=a6,names:=[ (ac ".0",ai),(ac "place",ai),(ac "around",bc),(ac "length",bc)],isGenerator:=false,isCoroutine:=false,more:=[]:cy }
theorem mY:bS ["text", "length", "size", "around"] ["place", "text", "length", "size", "around"] (aD cT) mS "place" := ⟨rfl,by decide +kernel,by decide +kernel,rfl,by decide +kernel,rfl,rfl,by decide +kernel,rfl,by decide +kernel,by decide +kernel⟩
theorem Dk:aS ["text", "length", "ring"] ["text", "length", "ring"] (aD iC):=⟨rfl,rfl,rfl,by decide +kernel,rfl,by decide +kernel,by decide +kernel⟩
theorem lS:aS ["words", "word"] ["words"] (aD eV):=⟨rfl,rfl,rfl,by decide +kernel,rfl,by decide +kernel,by decide +kernel⟩
theorem Cf:aS ["self", "words"] ["self", "words"] (aD gL):=⟨rfl,rfl,rfl,by decide +kernel,rfl,by decide +kernel,by decide +kernel⟩
theorem Bd:aS ["word"] ["word"] (aD gJ):=⟨rfl,rfl,rfl,by decide +kernel,rfl,by decide +kernel,by decide +kernel⟩
theorem Jd:aS ["word"] ["word"] (aD jL):=⟨rfl,rfl,rfl,by decide +kernel,rfl,by decide +kernel,by decide +kernel⟩
theorem Jo:aS ["web"] ["web"] (aD gY):=⟨rfl,rfl,rfl,by decide +kernel,rfl,by decide +kernel,by decide +kernel⟩
def yG:Scope:={ kind:=a6,names:=[ (ac ".0",ai),(ac "word",ai),(ac "begin_of",bo)],isGenerator:=false,isCoroutine:=false,more:=[]:cy }
theorem Bf:bS ["web"] ["word", "web"] (aD gY) yG "word" := ⟨rfl,by decide +kernel,by decide +kernel,rfl,by decide +kernel,rfl,rfl,by decide +kernel,rfl,by decide +kernel,by decide +kernel⟩
def xZ:Scope:={ kind:=a6,names:=[ (ac ".0",ai),(ac "word",ai),(ac "end_of",bo)],isGenerator:=false,isCoroutine:=false,more:=[]:cy }
theorem Cn:bS ["web"] ["word", "web"] (aD gY) xZ "word" := ⟨rfl,by decide +kernel,by decide +kernel,rfl,by decide +kernel,rfl,rfl,by decide +kernel,rfl,by decide +kernel,by decide +kernel⟩
theorem Pz:aS ["web", "piece"] ["web", "piece"] (aD mJ):=⟨rfl,rfl,rfl,by decide +kernel,rfl,by decide +kernel,by decide +kernel⟩
def Ek:Scope:={ kind:=a6,names:=[ (ac ".0",ai),(ac "word",ai),(ac "begin_of",bo),(ac "piece",bc)],isGenerator:=false,isCoroutine:=false,more:=[]:cy }
theorem Ih:bS ["web", "piece"] ["word", "web", "piece"] (aD mJ) Ek "word" := ⟨rfl,by decide +kernel,by decide +kernel,rfl,by decide +kernel,rfl,rfl,by decide +kernel,rfl,by decide +kernel,by decide +kernel⟩
theorem oP:aS ["web", "some", "going", "coming"] ["web", "some"] (aD gT):=⟨rfl,rfl,rfl,by decide +kernel,rfl,by decide +kernel,by decide +kernel⟩
def xQ:Scope:={ kind:=a6,names:=[ (ac ".0",ai),(ac "word",ai),(ac "begin_of",bo),(ac "some",bc)],isGenerator:=false,isCoroutine:=false,more:=[]:cy }
theorem Bn:bS ["web", "some", "going", "coming"] ["word", "web", "some", "going", "coming"] (aD gT) xQ "word" := ⟨rfl,by decide +kernel,by decide +kernel,rfl,by decide +kernel,rfl,rfl,by decide +kernel,rfl,by decide +kernel,by decide +kernel⟩
def xF:Scope:={ kind:=a6,names:=[ (ac ".0",ai),(ac "word",ai),(ac "end_of",bo),(ac "some",bc)],isGenerator:=false,isCoroutine:=false,more:=[]:cy }
theorem Bs:bS ["web", "some", "going", "coming"] ["word", "web", "some", "going", "coming"] (aD gT) xF "word" := ⟨rfl,by decide +kernel,by decide +kernel,rfl,by decide +kernel,rfl,rfl,by decide +kernel,rfl,by decide +kernel,by decide +kernel⟩
theorem fI:aS ["words", "piece", "found", "known", "word"] ["words", "piece"] (aD fD):=⟨rfl,rfl,rfl,by decide +kernel,rfl,by decide +kernel,by decide +kernel⟩
theorem Dd:aS ["web", "piece"] ["web", "piece"] (aD iB):=⟨rfl,rfl,rfl,by decide +kernel,rfl,by decide +kernel,by decide +kernel⟩
theorem jZ:aS ["web", "every", "together"] ["web"] (aD fO):=⟨rfl,rfl,rfl,by decide +kernel,rfl,by decide +kernel,by decide +kernel⟩
theorem kN:aS ["web", "piece"] ["web"] (aD eE):=⟨rfl,rfl,rfl,by decide +kernel,rfl,by decide +kernel,by decide +kernel⟩
theorem lY:aS ["web", "above"] ["web"] (aD dU):=⟨rfl,rfl,rfl,by decide +kernel,rfl,by decide +kernel,by decide +kernel⟩
def oU:Scope:={ kind:=a6,names:=[ (ac ".0",ai),(ac "piece",ai),(ac "excess",bo),(ac "web",bc)],isGenerator:=false,isCoroutine:=false,more:=[]:cy }
theorem qL:bS ["web", "above"] ["piece", "web", "above"] (aD dU) oU "piece" := ⟨rfl,by decide +kernel,by decide +kernel,rfl,by decide +kernel,rfl,rfl,by decide +kernel,rfl,by decide +kernel,by decide +kernel⟩
theorem iU:aS ["web", "paper", "firsts", "lasts"] ["web"] (aD eQ):=⟨rfl,rfl,rfl,by decide +kernel,rfl,by decide +kernel,by decide +kernel⟩
def sZ:Scope:={ kind:=a6,names:=[ (ac ".0",ai),(ac "piece",ai),(ac "excess",bo),(ac "web",bc)],isGenerator:=false,isCoroutine:=false,more:=[]:cy }
theorem uW:bS ["web", "paper", "firsts", "lasts"] ["piece", "web", "paper", "firsts", "lasts"] (aD eQ) sZ "piece" := ⟨rfl,by decide +kernel,by decide +kernel,rfl,by decide +kernel,rfl,rfl,by decide +kernel,rfl,by decide +kernel,by decide +kernel⟩
def sP:Scope:={ kind:=a6,names:=[ (ac ".0",ai),(ac "piece",ai),(ac "excess",bo),(ac "web",bc)],isGenerator:=false,isCoroutine:=false,more:=[]:cy }
theorem vH:bS ["web", "paper", "firsts", "lasts"] ["piece", "web", "paper", "firsts", "lasts"] (aD eQ) sP "piece" := ⟨rfl,by decide +kernel,by decide +kernel,rfl,by decide +kernel,rfl,rfl,by decide +kernel,rfl,by decide +kernel,by decide +kernel⟩
theorem Iu:aS ["web", "text"] ["web", "text"] (aD jK):=⟨rfl,rfl,rfl,by decide +kernel,rfl,by decide +kernel,by decide +kernel⟩
theorem Fi:aS ["words", "word"] ["words", "word"] (aD gI):=⟨rfl,rfl,rfl,by decide +kernel,rfl,by decide +kernel,by decide +kernel⟩
def uY:Scope:={ kind:=a6,names:=[ (ac ".0",ai),(ac "other",ai),(ac "word",bc)],isGenerator:=false,isCoroutine:=false,more:=[]:cy }
theorem xU:bS ["words", "word"] ["other", "words", "word"] (aD gI) uY "other" := ⟨rfl,by decide +kernel,by decide +kernel,rfl,by decide +kernel,rfl,rfl,by decide +kernel,rfl,by decide +kernel,by decide +kernel⟩
theorem lR:aS ["texts", "text", "words", "ends"] ["texts", "text", "words"] (aD dA):=⟨rfl,rfl,rfl,by decide +kernel,rfl,by decide +kernel,by decide +kernel⟩
def oE:Scope:={ kind:=a6,names:=[ (ac ".0",ai),(ac "word",ai),(ac "end_of",bo)],isGenerator:=false,isCoroutine:=false,more:=[]:cy }
theorem qQ:bS ["texts", "text", "words", "ends"] ["word", "texts", "text", "words", "ends"] (aD dA) oE "word" := ⟨rfl,by decide +kernel,by decide +kernel,rfl,by decide +kernel,rfl,rfl,by decide +kernel,rfl,by decide +kernel,by decide +kernel⟩
def pM:Scope:={ kind:=a6,names:=[ (ac ".0",ai),(ac "other",ai),(ac "len",bo),(ac "ends",bc),(ac "text",bc)],isGenerator:=false,isCoroutine:=false,more:=[]:cy }
theorem qJ:bS ["texts", "text", "words", "ends"] ["other", "texts", "text", "words", "ends"] (aD dA) pM "other" := ⟨rfl,by decide +kernel,by decide +kernel,rfl,by decide +kernel,rfl,rfl,by decide +kernel,rfl,by decide +kernel,by decide +kernel⟩
theorem iR:aS ["ways", "texts"] ["ways"] (aD bY):=⟨rfl,rfl,rfl,by decide +kernel,rfl,by decide +kernel,by decide +kernel⟩
def kH:Scope:={ kind:=a6,names:=[ (ac ".0",ai),(ac "text",ai),(ac "choice_row",bo),(ac "texts",bc),(ac "ways",bc)],isGenerator:=false,isCoroutine:=false,more:=[]:cy }
theorem kR:bS ["ways", "texts"] ["text", "ways", "texts"] (aD bY) kH "text" := ⟨rfl,by decide +kernel,by decide +kernel,rfl,by decide +kernel,rfl,rfl,by decide +kernel,rfl,by decide +kernel,by decide +kernel⟩
theorem mM:aS ["words", "one", "other", "begins", "ends"] ["words", "one", "other"] (aD fQ):=⟨rfl,rfl,rfl,by decide +kernel,rfl,by decide +kernel,by decide +kernel⟩
def uU:Scope:={ kind:=a6,names:=[ (ac ".0",ai),(ac "word",ai),(ac "begin_of",bo)],isGenerator:=false,isCoroutine:=false,more:=[]:cy }
theorem yY:bS ["words", "one", "other", "begins", "ends"] ["word", "words", "one", "other", "begins", "ends"] (aD fQ) uU "word" := ⟨rfl,by decide +kernel,by decide +kernel,rfl,by decide +kernel,rfl,rfl,by decide +kernel,rfl,by decide +kernel,by decide +kernel⟩
def uT:Scope:={ kind:=a6,names:=[ (ac ".0",ai),(ac "word",ai),(ac "end_of",bo)],isGenerator:=false,isCoroutine:=false,more:=[]:cy }
theorem zF:bS ["words", "one", "other", "begins", "ends"] ["word", "words", "one", "other", "begins", "ends"] (aD fQ) uT "word" := ⟨rfl,by decide +kernel,by decide +kernel,rfl,by decide +kernel,rfl,rfl,by decide +kernel,rfl,by decide +kernel,by decide +kernel⟩
theorem kM:aS ["words", "ways", "word"] ["words"] (aD gK):=⟨rfl,rfl,rfl,by decide +kernel,rfl,by decide +kernel,by decide +kernel⟩
theorem fC:aS ["many", "product", "factor"] ["many"] (aD cY):=⟨rfl,rfl,rfl,by decide +kernel,rfl,by decide +kernel,by decide +kernel⟩
theorem iL:aS ["words", "one", "other", "ways", "orders", "text"] ["words", "one", "other"] (aD iG):=⟨rfl,rfl,rfl,by decide +kernel,rfl,by decide +kernel,by decide +kernel⟩
theorem dO:aS ["words", "one", "other", "number", "text", "at", "left", "ahead", "word", "many"] ["words", "one", "other", "number"] (aD jS):=⟨rfl,rfl,rfl,by decide +kernel,rfl,by decide +kernel,by decide +kernel⟩
theorem dE:aS ["words", "order", "other", "number", "left", "word", "lesser"] ["words", "order", "other"] (aD fB):=⟨rfl,rfl,rfl,by decide +kernel,rfl,by decide +kernel,by decide +kernel⟩
theorem lQ:aS ["web", "least"] ["web"] (aD fE):=⟨rfl,rfl,rfl,by decide +kernel,rfl,by decide +kernel,by decide +kernel⟩
theorem fJ:aS ["web", "rings", "counts", "piece", "ends"] ["web"] (aD eY):=⟨rfl,rfl,rfl,by decide +kernel,rfl,by decide +kernel,by decide +kernel⟩
theorem yZ:aS ["web"] ["web"] (aD fR):=⟨rfl,rfl,rfl,by decide +kernel,rfl,by decide +kernel,by decide +kernel⟩
theorem tU:aS ["web", "piece", "ends"] ["web", "piece"] (aD iH):=⟨rfl,rfl,rfl,by decide +kernel,rfl,by decide +kernel,by decide +kernel⟩
theorem jI:aS ["web", "number", "counts", "ahead", "piece"] ["web", "number"] (aD jF):=⟨rfl,rfl,rfl,by decide +kernel,rfl,by decide +kernel,by decide +kernel⟩
theorem gP:aS ["web", "row", "counts", "begin", "ahead"] ["web", "row"] (aD dY):=⟨rfl,rfl,rfl,by decide +kernel,rfl,by decide +kernel,by decide +kernel⟩
def pK:Scope:={ kind:=a6,names:=[ (ac ".0",ai),(ac "piece",ai),(ac "begin",bc),(ac "counts",bc)],isGenerator:=false,isCoroutine:=false,more:=[]:cy }
theorem qV:bS ["web", "row", "counts", "begin", "ahead"] ["piece", "web", "row", "counts", "begin", "ahead"] (aD dY) pK "piece" := ⟨rfl,by decide +kernel,by decide +kernel,rfl,by decide +kernel,rfl,rfl,by decide +kernel,rfl,by decide +kernel,by decide +kernel⟩
theorem qR:aS ["script", "k"] ["script", "k"] (aD dG):=⟨rfl,rfl,rfl,by decide +kernel,rfl,by decide +kernel,by decide +kernel⟩
theorem vB:aS ["found", "due"] ["found", "due"] (aD eU):=⟨rfl,rfl,rfl,by decide +kernel,rfl,by decide +kernel,by decide +kernel⟩
theorem eC:aS ["cells", "kinds", "first", "words", "here", "cell", "free", "word"] ["cells", "kinds", "first"] (aD eJ):=⟨rfl,rfl,rfl,by decide +kernel,rfl,by decide +kernel,by decide +kernel⟩
def qM:Scope:={ kind:=a6,names:=[ (ac ".0",ai),(ac "sign",ai),(ac "here",bc),(ac "words",bc)],isGenerator:=false,isCoroutine:=false,more:=[]:cy }
theorem rQ:bS ["cells", "kinds", "first", "words", "here", "cell", "free", "word"] ["sign", "cells", "kinds", "first", "words", "here", "cell", "free", "word"] (aD eJ) qM "sign" := ⟨rfl,by decide +kernel,by decide +kernel,rfl,by decide +kernel,rfl,rfl,by decide +kernel,rfl,by decide +kernel,by decide +kernel⟩
theorem bC:aS ["script", "at", "most", "length", "kinds", "drawn", "first", "k", "words"] ["script", "at", "most"] (aD cN):=⟨rfl,rfl,rfl,by decide +kernel,rfl,by decide +kernel,by decide +kernel⟩
theorem eD:aS ["script", "many", "made", "found", "cell"] ["script", "many"] (aD dJ):=⟨rfl,rfl,rfl,by decide +kernel,rfl,by decide +kernel,by decide +kernel⟩
theorem bX:aS ["script", "length", "kinds", "drawn", "first", "k", "words"] ["script"] (aD eZ):=⟨rfl,rfl,rfl,by decide +kernel,rfl,by decide +kernel,by decide +kernel⟩
theorem lC:aS ["words", "text", "length"] ["words", "text"] (aD dC):=⟨rfl,rfl,rfl,by decide +kernel,rfl,by decide +kernel,by decide +kernel⟩
def nV:Scope:={ kind:=a6,names:=[ (ac ".0",ai),(ac "k",ai),(ac "length",bc),(ac "text",bc)],isGenerator:=false,isCoroutine:=false,more:=[]:cy }
theorem pA:bS ["words", "text", "length"] ["k", "words", "text", "length"] (aD dC) nV "k" := ⟨rfl,by decide +kernel,by decide +kernel,rfl,by decide +kernel,rfl,rfl,by decide +kernel,rfl,by decide +kernel,by decide +kernel⟩
theorem fG:aS ["web", "words", "many", "first", "last"] ["web", "words", "many"] (aD cJ):=⟨rfl,rfl,rfl,by decide +kernel,rfl,by decide +kernel,by decide +kernel⟩
theorem iN:aS ["script", "words", "web", "many", "before", "number", "row", "mine"] ["script"] (aD lW):=⟨rfl,rfl,rfl,by decide +kernel,rfl,by decide +kernel,by decide +kernel⟩
def Ic:Scope:={ kind:=a6,names:=[(ac ".0",ai),(ac "word",ai)],isGenerator:=false,isCoroutine:=false,more:=[]:cy }
theorem Kt:bS ["script", "words", "web", "many", "before", "number", "row", "mine"] ["word", "script", "words", "web", "many", "before", "number", "row", "mine"] (aD lW) Ic "word" := ⟨rfl,by decide +kernel,by decide +kernel,rfl,by decide +kernel,rfl,rfl,by decide +kernel,rfl,by decide +kernel,by decide +kernel⟩
structure Adr where
 BadKinds:Addr
 BadWord:Addr
 TooMany:Addr
 NoSuch:Addr
 NotOne:Addr
 Web:Addr
 KNOWN_TIMES:Addr
 u_FIRST_PRIME:Value
 u_STEP:Value
 u_LETTERS:Value
 u_LONGEST:Value
 u_MOST_OF_A_WEB:Value
 u_LONGEST_OF_A_WEB:Value
structure Txt (K:ae)(mg:Str->Option Value)(ad:Adr):Prop where
 b_abs:mg "abs" = none
 b_bool:mg "bool" = none
 b_enumerate:mg "enumerate" = none
 b_int:mg "int" = none
 b_isinstance:mg "isinstance" = none
 b_len:mg "len" = none
 b_list:mg "list" = none
 b_range:mg "range" = none
 b_set:mg "set" = none
 b_sorted:mg "sorted" = none
 b_str:mg "str" = none
 b_sum:mg "sum" = none
 b_tuple:mg "tuple" = none
 b_zip:mg "zip" = none
 m_BadKinds:mg "BadKinds" = some (.ref ad.BadKinds)
 m_BadWord:mg "BadWord" = some (.ref ad.BadWord)
 m_TooMany:mg "TooMany" = some (.ref ad.TooMany)
 m_NoSuch:mg "NoSuch" = some (.ref ad.NoSuch)
 m_NotOne:mg "NotOne" = some (.ref ad.NotOne)
 m_Web:mg "Web" = some (.ref ad.Web)
 m_KNOWN_TIMES:mg "KNOWN_TIMES" = some (.ref ad.KNOWN_TIMES)
 x_BadKinds:Exc K mg "BadKinds" ad.BadKinds
 x_BadWord:Exc K mg "BadWord" ad.BadWord
 x_TooMany:Exc K mg "TooMany" ad.TooMany
 x_NoSuch:Exc K mg "NoSuch" ad.NoSuch
 x_NotOne:Exc K mg "NotOne" ad.NotOne
 g_FIRST_PRIME:mg "FIRST_PRIME" = some ad.u_FIRST_PRIME
 r_FIRST_PRIME:bE (.int 2305843009213693951) ad.u_FIRST_PRIME
 g_STEP:mg "STEP" = some ad.u_STEP
 r_STEP:bE (.int 6277101735386680763835789423207666416102355444464034512896) ad.u_STEP
 g_LETTERS:mg "LETTERS" = some ad.u_LETTERS
 r_LETTERS:bE (T [97,98,99,100,101,102]) ad.u_LETTERS
 g_LONGEST:mg "LONGEST" = some ad.u_LONGEST
 r_LONGEST:bE (.int 24) ad.u_LONGEST
 g_MOST_OF_A_WEB:mg "MOST_OF_A_WEB" = some ad.u_MOST_OF_A_WEB
 r_MOST_OF_A_WEB:bE (.int 64) ad.u_MOST_OF_A_WEB
 g_LONGEST_OF_A_WEB:mg "LONGEST_OF_A_WEB" = some ad.u_LONGEST_OF_A_WEB
 r_LONGEST_OF_A_WEB:bE (.int 8) ad.u_LONGEST_OF_A_WEB
 kt:tupIs K ad.KNOWN_TIMES [133,211,598,652,721,850,1282,1417,1582,1681,1726,1837,1885,2017,2377,2383,2452,2476,2530,2611,2662,2698,2773,2878,2917,2980,2998,3082,3238,3250,3343,3421,3427,3670,3817,4162,4252,4447,4468,4621,4630,4747,4867,4891,4915,5128,5143,5236,5401,5587,5650,5803,5833,5923,5986,6202,6235,6286,6496,6526,6736,7093,7561,7696,7831,7855,7882,7927,8143,8248]=true
 cl_Web:Cls K ad.Web
 na_Web_words:kU K ad.Web "words"
 na_Web_length:kU K ad.Web "length"
theorem cM {CX:CXT}{P:Program}{w:World}{K:ae}{mg:Str->Option Value}{base:Heap}{N:List Str}{q:Str}{sc:Scope}{f:Addr}{cdv:Value}{A:Around}{outer:List Env}{s:Shared}{H:Hp}{E:XK}:(qT CX P w K mg base N q sc f cdv A outer s H E).nox.K=K:=rfl
section
variable {P:Program}{w:World}{K:ae}{mg:Str->Option Value}{base:Heap}{ad:Adr}
theorem Xr {m:Nat}(h:m<6):([97,98,99,100,101,102]:List Nat)[m]?=some (97+m):=by
 have key:∀ m:Nat,m<6->([97,98,99,100,101,102]:List Nat)[m]?=some (97+m):=by decide
 exact key m h
theorem Gi {k c:Nat}(hk:k<=6):c∈([97,98,99,100,101,102]:List Nat).take k↔97<=c∧c<97+k:=by
 have key:∀ k:Nat,k<7->([97,98,99,100,101,102]:List Nat).take k=(cf k).map (97 + ·):=by decide
 rw[key k (Nat.lt_succ_of_le hk),au];exact⟨fun ⟨i,h,e⟩=>e▸⟨il _ _,Nat.add_lt_add_left (cx.mp h) _⟩,fun ⟨h1,h2⟩=>⟨c-97,cx.mpr (Nat.sub_lt_left_of_lt_add h1 h2),Nat.add_sub_cancel' h1⟩⟩
def nE (ad:Adr):Sp:=fun vs H Q E=>∃ k:Int,vs=[.int k]∧((1<=k∧k<=6)->Q .non H)∧(¬ (1<=k∧k<=6)->E (.ref ad.BadKinds) none H)
theorem qK {f:Addr}{fd:FuncData}(F:Fun K "looked_kinds" "looked_kinds" dR f fd)(tt:Txt K mg ad):bQ P w K mg base (CX1 P w) 1 f fd ["kinds"] (nE ad):=by
 refine F.okX qS (fun vs H Q E h=>?_) (fun cdv A outer s H vs Q E hr h=>?_)
 ·obtain⟨k,rfl,_⟩:=h
  rfl
 ·obtain⟨k,rfl,q,x⟩:=h
  have hs:sizeLine=16777216:=sizeLine_eq;refine⟨_,(aF (bW (PW.pt (pZ (aW lU (pv 0) aG (aY _)) (mO (aW qC (pv 0) (aN cV (by rfl) tt.b_len bh (aA (fU (by rfl) tt.g_LETTERS tt.r_LETTERS) aC)) (aY _))))) (aF (eM (E:=fun cls H'=>E cls none H') tt.x_BadKinds rfl (fun _ _ _ _ _ _ _ I hx q=>iJ I hx q) (aA (bT [107,105,110,100,115,32,97,114,101,32,97,32,119,104,111,108,101,32,110,117,109,98,101,114,32,102,114,111,109,32,49,32,116,111,32,54] (by decide +kernel)) aC))) bA)),?_⟩
  (try rw[cM]);(try rw[cxK1])
  refine⟨_,rfl,_,_,rfl,rfl,_,rfl,?_⟩;refine kS (fun h0=>rW ?_) (fun h0=>?_)
  ·have h1:k<1:=of_decide_eq_true h0
   exact⟨(by show 1<=sizeLine;omega),x fun z=>by omega⟩
  ·have h1:¬ k<1:=fun z=>h0 (decide_eq_true z)
   refine⟨_,rfl,_,rfl,(by show 6<=sizeLine;omega),_,_,rfl,rfl,_,rfl,?_⟩;refine kS (fun h2=>?_) (fun h2=>?_)
   ·have h3:(6:Int)<k:=of_decide_eq_true h2
    exact⟨(by show 1<=sizeLine;omega),x fun z=>by omega⟩
   ·have h3:¬ (6:Int)<k:=fun z=>h2 (decide_eq_true z)
    exact q ⟨by omega,by omega⟩
def Db (ad:Adr):Sp:=fun vs H Q E=>∃ n k:Int,vs=[.int n,.int k]∧((1<=k∧k<=6)->(1<=n∧n<=24)->Q .non H)∧(¬ (1<=k∧k<=6)->E (.ref ad.BadKinds) none H)∧((1<=k∧k<=6)->¬ (1<=n∧n<=24)->E (.ref ad.BadWord) none H)
theorem pB {f:Addr}{fd:FuncData}(F:Fun K "looked_length" "looked_length" cZ f fd)(tt:Txt K mg ad)(C_looked_kinds:Cal P w K mg base (CX1 P w) "looked_kinds" 1 ["kinds"] (nE ad)) :
  bQ P w K mg base (CX1 P w) 2 f fd ["length", "kinds"] (Db ad):=by
 refine F.okX pO (fun vs H Q E h=>?_) (fun cdv A outer s H vs Q E hr h=>?_)
 ·obtain⟨n,k,rfl,_⟩:=h
  rfl
 ·obtain⟨n,k,rfl,q,x1,x2⟩:=h
  have hs:sizeLine=16777216:=sizeLine_eq;refine⟨_,(aB (iY (aI C_looked_kinds hr wJ (aA (pv 1) aC)))
   (aF (bW (PW.pt (pZ (aW lU (pv 0) aG (aY _)) (mO (aW qC (pv 0) (fU (by rfl) tt.g_LONGEST tt.r_LONGEST) (aY _))))) (aF (eM (E:=fun cls H'=>E cls none H') tt.x_BadWord rfl (fun _ _ _ _ _ _ _ I hx q=>iJ I hx q) (aA (bT [97,32,119,111,114,100,32,104,97,115,32,49,32,116,111,32,50,52,32,108,101,116,116,101,114,115] (by decide +kernel)) aC))) bA))),?_⟩
  (try rw[cM]);(try rw[cxK1])
  refine⟨_,rfl,k,rfl,fun hk=>?_,x1⟩;refine⟨_,rfl,_,_,rfl,rfl,_,rfl,?_⟩;refine kS (fun h0=>rW ?_) (fun h0=>?_)
  ·have h1:n<1:=of_decide_eq_true h0
   exact⟨(by show 1<=sizeLine;omega),x2 hk fun z=>by omega⟩
  ·have h1:¬ n<1:=fun z=>h0 (decide_eq_true z)
   refine⟨_,rfl,_,_,rfl,rfl,_,rfl,?_⟩;refine kS (fun h2=>?_) (fun h2=>?_)
   ·have h3:(24:Int)<n:=of_decide_eq_true h2
    exact⟨(by show 1<=sizeLine;omega),x2 hk fun z=>by omega⟩
   ·have h3:¬ (24:Int)<n:=fun z=>h2 (decide_eq_true z)
    exact q hk ⟨by omega,by omega⟩
def mR (ad:Adr):Sp:=fun vs H Q E=>∃ k:Int,vs=[.int k]∧(∀ kn:Nat,k=(kn:Nat)->(1<=kn∧kn<=6)->Q (T (([97,98,99,100,101,102]:List Nat).take kn)) H)∧(¬ (1<=k∧k<=6)->E (.ref ad.BadKinds) none H)
theorem Cq {f:Addr}{fd:FuncData}(F:Fun K "letters" "letters" iE f fd)(tt:Txt K mg ad)(C_looked_kinds:Cal P w K mg base (CX1 P w) "looked_kinds" 1 ["kinds"] (nE ad)):bQ P w K mg base (CX1 P w) 2 f fd ["kinds"] (mR ad):=by
 refine F.okX Cs (fun vs H Q E h=>?_) (fun cdv A outer s H vs Q E hr h=>?_)
 ·obtain⟨k,rfl,_⟩:=h
  rfl
 ·obtain⟨k,rfl,q,x⟩:=h
  have hs:sizeLine=16777216:=sizeLine_eq;refine⟨_,(aB (iY (aI C_looked_kinds hr wJ (aA (pv 0) aC)))
   (aF (aV (bL mV (fU (by rfl) tt.g_LETTERS tt.r_LETTERS) cP (bK (pv 0)))))),?_⟩
  (try rw[cM]);(try rw[cxK1])
  refine⟨_,rfl,k,rfl,fun hk=>?_,x⟩;obtain⟨kn,rfl⟩:∃ kn:Nat,k=(kn:Nat):=⟨k.toNat,by omega⟩;refine⟨_,rfl,_,rfl,_,rfl,(by show 6<=sizeLine;omega),?_⟩;rw[Gf (by show kn<=6;omega)];exact q kn rfl ⟨by omega,by omega⟩
def xD (w:List Nat)(kn:Nat):Prop:=(1<=w.length∧w.length<=24)∧∀ c∈w,97<=c∧c<97+kn
def nZ (ad:Adr):Sp:=fun vs H Q E=>∃ (w:List Nat) (k:Int),vs=[T w,.int k]∧w.length<=100000∧(¬ (1<=k∧k<=6)->E (.ref ad.BadKinds) none H) ∧
 ∀ kn:Nat,k=(kn:Nat)->(1<=kn∧kn<=6)->(xD w kn->Q .non H)∧(¬ xD w kn->E (.ref ad.BadWord) none H)
theorem Jh {f:Addr}{fd:FuncData}(F:Fun K "looked" "looked" jQ f fd)(tt:Txt K mg ad)(C_looked_length:Cal P w K mg base (CX1 P w) "looked_length" 2 ["length", "kinds"] (Db ad))
  (C_letters:Cal P w K mg base (CX1 P w) "letters" 2 ["kinds"] (mR ad)):bQ P w K mg base (CX1 P w) 3 f fd ["word", "kinds"] (nZ ad):=by
 refine F.okX oO (fun vs H Q E h=>?_) (fun cdv A outer s H vs Q E hr h=>?_)
 ·obtain⟨w,k,rfl,_⟩:=h
  rfl
 ·obtain⟨w,k,rfl,hw,x1,q⟩:=h
  have hs:sizeLine=16777216:=sizeLine_eq;refine⟨_,(aB (iY (aI C_looked_length hr wJ (aA (aN cV (by rfl) tt.b_len bh (aA (pv 0) aC)) (aA (pv 1) aC))))
   (aB (aH (i:=2) oO.nd rfl (Or.inl rfl) (aI C_letters hr wJ (aA (pv 1) aC)))
   (aF (dW PassesOwn.leaving rfl (Km (pv 0)) (cG (i:=3) oO.nd rfl (Or.inl rfl)) (aF (bW (aW Ca (pv 3) (pv 2) (by with_unfolding_all rfl)) (aF (eM (E:=fun cls H'=>E cls none H') tt.x_BadWord rfl (fun _ _ _ _ _ _ _ I hx q=>iJ I hx q) (aA (bT [97,32,119,111,114,100,32,104,97,115,32,108,101,116,116,101,114,115,32,111,102,32,105,116,115,32,107,105,110,100,115,32,97,108,111,110,101] (by decide +kernel)) aC))) bA)))))),?_⟩
  (try rw[cM]);(try rw[cxK1])
  refine⟨_,rfl,_,rfl,(by omega),_,rfl,_,k,rfl,fun hk hn=>?_,x1,fun hk hn=>?_⟩
  rotate_left
  ·obtain⟨kn,rfl⟩:∃ kn:Nat,k=(kn:Nat):=⟨k.toNat,by omega⟩
   exact (q kn rfl ⟨by omega,by omega⟩).2 fun z=>hn ⟨by have:=z.1;omega,by have:=z.1;omega⟩
  obtain⟨kn,rfl⟩:∃ kn:Nat,k=(kn:Nat):=⟨k.toNat,by omega⟩;obtain⟨q1,q2⟩:=q kn rfl ⟨by omega,by omega⟩;refine⟨_,rfl,_,rfl,fun kn' ek hk'=>?_,fun z=>absurd hk z⟩;obtain rfl:kn=kn':=by omega
  refine⟨_,rfl,_,rfl,?_⟩;refine Mp (l:=w) (fun i σ H2=>H=H2∧(∀ c∈w.take i,97<=c∧c<97+kn)∧∃ v,σ=[some (T w),some (.int (kn:Nat)),some (T (([97,98,99,100,101,102]:List Nat).take kn)),v]) ⟨rfl,fun c hc=>(by simp at hc),none,rfl⟩ ?_ ?_
  ·rintro i c σ H2 hi ⟨rfl,hall,v,rfl⟩
   refine⟨_,rfl,_,rfl,_,rfl,_,rfl,_,rfl,?_⟩;refine kS (fun h0=>?_) (fun h0=>?_)
   ·have h1:¬ c∈([97,98,99,100,101,102]:List Nat).take kn:=fun z=>by
     rw[decide_eq_true z] at h0;cases h0
    refine⟨(by show 1<=sizeLine;omega),q2 fun z=>h1 ?_⟩;exact (Gi (by omega)).mpr (z.2 c (ay hi))
   ·have h1:c∈([97,98,99,100,101,102]:List Nat).take kn:=by
     apply b6;intro z;rw[decide_eq_false z] at h0;exact h0 rfl
    refine⟨rfl,fun d hd=>?_,_,rfl⟩;have hil:=(ag.mp hi).1;rw[cn,hi] at hd;rcases bj.mp hd with z | z
    ·exact hall d z
    ·have:d=c:=by simpa using z
     subst this;exact (Gi (by omega)).mp h1
  ·rintro σ H2 ⟨rfl,hall,v,rfl⟩
   rw[da] at hall;exact q1 ⟨⟨by omega,by omega⟩,hall⟩
def Eh:Sp:=fun vs H Q _=>∃ (t:List Nat) (n:Nat),vs=[T t,.int (n:Nat)]∧(t.length<=5000∧1<=n∧n<=5000)∧∀ D H',H D=none->aJ H H'->H' D=some (.lst ((Wd.fS t n).map T))->Q (.ref D) H'
theorem rM {f:Addr}{fd:FuncData}(F:Fun K "row_windows" "row_windows" dD f fd)(tt:Txt K mg ad):bQ P w K mg base (CX1 P w) 1 f fd ["text", "length"] Eh:=by
 refine F.okN sI (fun vs H Q E h=>?_) (fun cdv A outer s H vs Q E hr h=>?_)
 ·obtain⟨t,n,rfl,_⟩:=h
  rfl
 ·obtain⟨t,n,rfl,hn,q⟩:=h
  have hs:sizeLine=16777216:=sizeLine_eq;refine⟨_,(aF (aV (eI oQ rfl (jO (by rfl) tt.b_range (aA (aU eB (aU eK (aN cV (by rfl) tt.b_len bh (aA (pv 0) aC)) (pv 1)) aG) aC)) (fun cl C s' H' fp=>(bL mV (pv 1) (bK (pv 0)) (bK (aU eB (pv 0) (pv 2)))))))),?_⟩
  (try rw[cM]);(try rw[cxK1])
  refine⟨_,rfl,_,rfl,(by omega),_,rfl,_,_,rfl,rfl,_,_,rfl,rfl,_,rfl,by omega,by omega,?_⟩;have en:(((t.length:Nat):Int)-((n:Nat):Int)+1).toNat=t.length+1-n:=by omega
  rw[en];refine mQ (lo:=0) (n:=t.length+1-n) (fun i=>T (Wd.fL t n i)) (by omega) (fun i H4 hi s4 N hN=>?_) fun D H4 hD s4 hd4=>?_
  ·refine⟨_,rfl,_,rfl,_,rfl,_,rfl,_,rfl,_,_,rfl,rfl,_,rfl,_,rfl,by omega,?_⟩
   have e:gC t (some (0+(i:Int))) (some (0+(i:Int)+((n:Nat):Int)))=Wd.fL t n i:=by
    rw[qv,<- gi,uO (by omega) (by omega),m9];exact Wd.tZ (by omega)
   rw[e];exact hN H4 (aJ.refl _)
  ·exact q D H4 hD s4 (by rw[hd4,Wd.fS,br];rfl)
def zO:Sp:=fun vs H Q _=>∃ (t:List Nat) (n:Nat),vs=[T t,.int (n:Nat)]∧(t.length<=5000∧1<=n∧n<=5000)∧∀ D H',H D=none->aJ H H'->H' D=some (.lst ((Wd.Lu t n).map T))->Q (.ref D) H'
theorem qU {f:Addr}{fd:FuncData}(F:Fun K "ring_windows" "ring_windows" cT f fd)(tt:Txt K mg ad):bQ P w K mg base (CX1 P w) 1 f fd ["text", "length"] zO:=by
 refine F.okN hJ (fun vs H Q E h=>?_) (fun cdv A outer s H vs Q E hr h=>?_)
 ·obtain⟨t,n,rfl,_⟩:=h
  rfl
 ·obtain⟨t,n,rfl,hn,q⟩:=h
  have hs:sizeLine=16777216:=sizeLine_eq;refine⟨_,(aB (bW (aW nK (pv 0) (bT [] (by decide +kernel)) (aY _)) (aF (aV (eA aC))) bA)
   (aB (aH (i:=2) hJ.nd rfl (Or.inl rfl) (aN cV (by rfl) tt.b_len bh (aA (pv 0) aC)))
   (aB (aH (i:=3) hJ.nd rfl (Or.inr rfl) (aU Bx (pv 0) (aU eB (aU rK (pv 1) (pv 2)) aG)))
   (aF (aV (eI mY rfl (jO (by rfl) tt.b_range (aA (pv 2) aC)) (fun cl C s' H' fp=>(bL mV (pv 4) (bK (pv 0)) (bK (aU eB (pv 0) (pv 2))))))))))),?_⟩
  (try rw[cM]);(try rw[cxK1])
  refine⟨_,rfl,_,rfl,_,rfl,_,rfl,?_⟩;refine kS (fun h0=>?_) (fun h0=>?_)
  ·have e:t=[]:=of_decide_eq_true h0
   subst e;exact⟨(by show 0<=sizeLine;omega),fun D hD=>q D _ hD (fun b o e=>by rw[aK (aM e hD)];exact e) aE⟩
  ·have hne:t≠[]:=fun z=>h0 (decide_eq_true z)
   have hp:0<t.length:=cj.mpr hne;have hdv:((n:Nat):Int)/((t.length:Nat):Int)+2=((n/t.length+2:Nat):Int):=by rw[<- Int.natCast_ediv];rfl
   have hdm:n/t.length*t.length+n % t.length=n:=by rw[c9];exact lj n t.length
   have hml:=jf n hp;have hdl:n/t.length<=n:=oa _ _;have hcl:(n/t.length+2)*t.length=n/t.length*t.length+2*t.length:=by rw[gr]
   refine⟨_,rfl,_,rfl,(by omega),?_⟩;refine⟨_,rfl,_,rfl,_,rfl,_,_,rfl,rfl,⟨by omega,by omega⟩,_,_,rfl,rfl,_,rfl,n/t.length+2,congrArg V.int hdv,⟨by omega,by omega⟩,?_⟩;refine⟨_,rfl,_,rfl,by omega,by omega,?_⟩;rw[c8];refine mQ (lo:=0) (n:=t.length) (fun i=>T (Wd.fL t n i)) (by omega) (fun i H4 hi s4 N hN=>?_) fun D H4 hD s4 hd4=>?_
   ·refine⟨_,rfl,_,rfl,_,rfl,_,rfl,_,rfl,_,_,rfl,rfl,_,rfl,_,rfl,(by rw[Wd.lK];omega),?_⟩
    have e:gC (Wd.rep (n/t.length+2) t) (some (0+(i:Int))) (some (0+(i:Int)+((n:Nat):Int)))=Wd.fL t n i:=by
     rw[show 0+(i:Int)+((n:Nat):Int)=((i+n:Nat):Int) by omega,qv,uO (by rw[Wd.lK];omega) (by omega),show i+n-i=n by omega];exact Wd.Qu (by omega) hp
    rw[e];exact hN H4 (aJ.refl _)
   ·exact q D H4 hD s4 (by rw[hd4,Wd.Lu,br];rfl)
def Fu:Sp:=fun vs H Q _=>∃ (t:List Nat) (n:Nat) (b:Bool),vs=[T t,.int (n:Nat),.bl b]∧(t.length<=5000∧1<=n∧n<=5000)∧∀ D H',H D=none->aJ H H'->H' D=some (.lst ((Wd.win t n b).map T))->Q (.ref D) H'
theorem Em {f:Addr}{fd:FuncData}(F:Fun K "windows" "windows" iC f fd)(tt:Txt K mg ad)(C_row_windows:Cal P w K mg base (CX1 P w) "row_windows" 1 ["text", "length"] Eh)(C_ring_windows:Cal P w K mg base (CX1 P w) "ring_windows" 1 ["text", "length"] zO) :
  bQ P w K mg base (CX1 P w) 2 f fd ["text", "length", "ring"] Fu:=by
 refine F.okN Dk (fun vs H Q E h=>?_) (fun cdv A outer s H vs Q E hr h=>?_)
 ·obtain⟨t,n,b,rfl,_⟩:=h
  rfl
 ·obtain⟨t,n,b,rfl,hn,q⟩:=h
  refine⟨_,(aB (bW (kW (pv 2)) (aF (aV (aI C_ring_windows hr aO (aA (pv 0) (aA (pv 1) aC))))) bA)
   (aF (aV (aI C_row_windows hr aO (aA (pv 0) (aA (pv 1) aC)))))),?_⟩
  (try rw[cM]);(try rw[cxK1])
  refine⟨_,rfl,_,rfl,?_⟩;refine kS (fun h0=>?_) (fun h0=>?_)
  ·rw[Wd.win,if_pos h0] at q
   exact⟨_,rfl,_,rfl,t,n,rfl,hn,q⟩
  ·rw[Wd.win,if_neg h0] at q
   exact⟨_,rfl,_,rfl,t,n,rfl,hn,q⟩
def uL (k:Nat)(ls:List (List Nat)):Prop:=∃ ps:List (List Nat),ps.length<=k∧∀ w∈ls,w.take (w.length-1)∈ps∧w.drop 1∈ps
def Few (ls:List (List Nat)):Prop:=uL 61 ls
theorem uL.sub {k:Nat}{ls ms:List (List Nat)}(h:uL k ls)(s:∀ w∈ms,w∈ls):uL k ms:=h.elim fun ps g=>⟨ps,g.1,fun w hw=>g.2 w (s w hw)⟩
theorem uL.len {k:Nat}{ls:List (List Nat)}(h:2*ls.length<=k):uL k ls:=⟨ls.map (fun w=>w.take (w.length-1))++ls.map (fun w=>w.drop 1),by rw[aq,aR,aR];omega,fun w hw=>⟨bj.mpr (.inl (au.mpr ⟨w,hw,rfl⟩)),bj.mpr (.inr (au.mpr ⟨w,hw,rfl⟩))⟩⟩
theorem Ni {ls:List (List Nat)}(h:ls.Nodup):(uniq ls).length=ls.length:=((dh (tV ls) h).mpr fun x=>iI ls x).length_eq
theorem Sy {H:Hp}{p x C dx:Addr}{fs:List (Str×V)}{xs:List V}{o:HO}(h:SqL K H p xs)(hx:H x=some (.ins C dx fs)):SqL K (upd H x o) p xs:=by
 rcases h with (h | ⟨q,h⟩) | h
 ·exact .inl (.inl (by rw[aK (fun z=>by subst z;rw[hx] at h;cases h)];exact h))
 ·exact .inl (.inr ⟨q,by rw[aK (fun z=>by subst z;rw[hx] at h;cases h)];exact h⟩)
 ·exact .inr h
def gG (ls:List (List Nat))(n:Nat):Prop:=ls≠[]∧ls.length<=60∧((1<=n∧n<=8)∧Few ls)∧(∀ x∈ls,x.length=n∧∀ c∈x,97<=c∧c<103)∧ls.Nodup
def Dx (K:ae):Sp:=fun vs H Q _=>∃ (p:Addr) (ls:List (List Nat)) (n:Nat),vs=[.ref p]∧SqL K H p (ls.map T)∧gG ls n∧∀ H',aJ H H'->Q .non H'
theorem vM {f:Addr}{fd:FuncData}(F:Fun K "looked_web" "looked_web" eV f fd)(tt:Txt K mg ad)(C_looked:Cal P w K mg base (CX1 P w) "looked" 3 ["word", "kinds"] (nZ ad)) :
  bQ P w K mg base (CX1 P w) 4 f fd ["words"] (Dx K):=by
 refine F.okX lS (fun vs H Q E h=>?_) (fun cdv A outer s H vs Q E hr h=>?_)
 ·obtain⟨p,ls,n,rfl,_⟩:=h
  rfl
 ·obtain⟨p,ls,n,rfl,hS,⟨hne,h64,hn,hx,hnd⟩,q⟩:=h
  have hs:sizeLine=16777216:=sizeLine_eq;have hl0:0<ls.length:=cj.mpr hne;obtain⟨x0,hx0⟩:∃ x0,ls[0]?=some x0:=⟨_,aa hl0⟩;have hx0l:=(hx x0 (ay hx0)).1;refine⟨_,(aB (bW (aW qC (aN aX (by rfl) tt.b_len bh (aA (pv 0) aC)) (fU (by rfl) tt.g_MOST_OF_A_WEB tt.r_MOST_OF_A_WEB) (aY _)) (aF (eM (E:=fun cls H'=>E cls none H') tt.x_TooMany rfl (fun _ _ _ _ _ _ _ I hx q=>iJ I hx q) (aA (bT [97,32,119,101,98,32,104,97,115,32,97,116,32,109,111,115,116,32,54,52,32,119,111,114,100,115] (by decide +kernel)) aC))) bA)
   (aB (bW (aW eT (aN aX (by rfl) tt.b_len bh (aA (pv 0) aC)) aG (aY _)) (aF (eM (E:=fun cls H'=>E cls none H') tt.x_BadWord rfl (fun _ _ _ _ _ _ _ I hx q=>iJ I hx q) (aA (bT [97,32,119,101,98,32,104,97,115,32,97,116,32,108,101,97,115,116,32,111,110,101,32,119,111,114,100] (by decide +kernel)) aC))) bA)
   (aB (dW PassesOwn.leaving rfl (cF (pv 0)) (cG (i:=1) lS.nd rfl (Or.inl rfl)) (aB (iY (aI C_looked hr wJ (aA (pv 1) (aA (aN cV (by rfl) tt.b_len bh (aA (fU (by rfl) tt.g_LETTERS tt.r_LETTERS) aC)) aC))))
   (aB (bW (aW qC (aN cV (by rfl) tt.b_len bh (aA (pv 1) aC)) (fU (by rfl) tt.g_LONGEST_OF_A_WEB tt.r_LONGEST_OF_A_WEB) (aY _)) (aF (eM (E:=fun cls H'=>E cls none H') tt.x_BadWord rfl (fun _ _ _ _ _ _ _ I hx q=>iJ I hx q) (aA (bT [97,32,119,111,114,100,32,111,102,32,97,32,119,101,98,32,104,97,115,32,97,116,32,109,111,115,116,32,56,32,108,101,116,116,101,114,115] (by decide +kernel)) aC))) bA)
   (aF (bW (aW lM (aN cV (by rfl) tt.b_len bh (aA (pv 1) aC)) (aN cV (by rfl) tt.b_len bh (aA (cU cK (pv 0) aG (fun _ _=>rfl)) aC)) (aY _)) (aF (eM (E:=fun cls H'=>E cls none H') tt.x_BadWord rfl (fun _ _ _ _ _ _ _ I hx q=>iJ I hx q) (aA (bT [116,104,101,32,119,111,114,100,115,32,111,102,32,97,32,119,101,98,32,104,97,118,101,32,111,110,101,32,108,101,110,103,116,104] (by decide +kernel)) aC))) bA)))))
   (aF (bW (aW lM (aN Jl (by rfl) tt.b_len bh (aA (cW (Iv rfl) (by rfl) tt.b_set (by decide +kernel) (aA (pv 0) aC)) aC)) (aN aX (by rfl) tt.b_len bh (aA (pv 0) aC)) (aY _)) (aF (eM (E:=fun cls H'=>E cls none H') tt.x_BadWord rfl (fun _ _ _ _ _ _ _ I hx q=>iJ I hx q) (aA (bT [97,32,119,111,114,100,32,115,116,97,110,100,115,32,105,110,32,97,32,119,101,98,32,111,110,99,101] (by decide +kernel)) aC))) bA))))),?_⟩
  (try rw[cM]);(try rw[cxK1])
  refine⟨_,rfl,p,_,rfl,.inl hS,_,_,rfl,rfl,_,rfl,?_⟩;rw[aR];refine kS (fun h0=>absurd (of_decide_eq_true h0) (by omega)) (fun _=>?_);refine⟨_,rfl,p,_,rfl,.inl hS,_,rfl,_,rfl,_,rfl,?_⟩;rw[aR];refine kS (fun h0=>absurd (of_decide_eq_true h0) (by omega)) (fun _=>?_);refine⟨_,rfl,p,rfl,⟨_,hS⟩,?_⟩;refine fH (K:=K) (a:=p) (xs:=ls.map T) (fun i σ H2=>H2=H∧∃ v,σ=[some (.ref p),v]) ⟨rfl,none,rfl⟩ (fun i σ H2 _ h=>by rw[h.1];exact hS) ?_ ?_
  ·rintro i y σ H2 hi ⟨rfl,v,rfl⟩
   obtain⟨x,hxi,rfl⟩:∃ x,ls[i]?=some x∧y=T x:=by
    rw[al] at hi;obtain⟨x,h1,h2⟩:=bi.mp hi;exact⟨x,h1,h2.symm⟩
   obtain⟨hxl,hxc⟩:=hx x (ay hxi);have hg:∀ kn:Nat,(6:Int)=(kn:Nat)->xD x kn:=fun kn e=>⟨⟨by omega,by omega⟩,fun c hc=>by have:=hxc c hc;omega⟩
   refine⟨_,rfl,_,rfl,(by show 6<=sizeLine;omega),x,6,rfl,(by omega),fun z=>absurd ⟨by decide,by decide⟩ z,fun kn ek hk=>⟨fun _=>?_,fun z=>absurd (hg kn ek) z⟩⟩;refine⟨_,rfl,_,rfl,(by omega),_,_,rfl,rfl,_,rfl,?_⟩;refine kS (fun h0=>absurd (of_decide_eq_true h0) (by omega)) (fun _=>?_);refine⟨_,rfl,_,rfl,(by omega),_,rfl,p,_,_,_,rfl,rfl,hS,cD (j:=0) (by rw[al,hx0];rfl),_,rfl,(by omega),_,rfl,_,rfl,_,rfl,?_⟩;refine Sa (by rw[hxl,hx0l]) ?_;exact⟨rfl,_,rfl⟩
  ·rintro σ H2 ⟨rfl,v,rfl⟩
   refine⟨_,rfl,p,ls,rfl,hS,(by omega),fun D hD=>?_⟩;have sD:aJ H2 (upd H2 D (Kv P w D (uniq ls))):=fun b o e=>by rw[aK (aM e hD)];exact e
   refine⟨D,_,rfl,aE,_,rfl,p,_,rfl,.inl (sD.seq hS),_,rfl,_,rfl,_,rfl,?_⟩;refine Sa (by rw[aR,Ni hnd]) ?_;exact q _ sD
def Hz (tp:Addr)(n:Int):List (Str×V):=kE "length" (.int n) (kE "words" (.ref tp) [])
theorem gO (tp:Addr)(n:Int):(Hz tp n).lookup ("words" : Str)=some (.ref tp):=by
 unfold Hz;rw[hG,if_neg (by decide +kernel),hG,if_pos rfl]
theorem Di (tp:Addr)(n:Int):(Hz tp n).lookup ("length" : Str)=some (.int n):=by
 unfold Hz;rw[hG,if_pos rfl]
def Fg (K:ae)(C:Addr):Sp:=fun vs H Q _=>∃ (x dx p:Addr) (ls:List (List Nat)) (n:Nat),vs=[.ref x,.ref p]∧H x=some (.ins C dx [])∧SqL K H p (ls.map T)∧gG ls n ∧
 ∀ (tp:Addr) (ms:List (List Nat)) (H':Hp),ms.Perm ls->ms.Pairwise (fun a b=>¬ b<a)->(∀ b o,H b=some o->b≠x->H' b=some o)->H' x=some (.ins C dx (Hz tp (n:Nat)))->H' tp=some (.tup (ms.map T))->Q .non H'
theorem Ah {f:Addr}{fd:FuncData}(F:Fun K "__init__" "Web.__init__" gL f fd)(tt:Txt K mg ad)(C_looked_web:Cal P w K mg base (CX1 P w) "looked_web" 4 ["words"] (Dx K)) :
  bQ P w K mg base (CX1 P w) 5 f fd ["self", "words"] (Fg K ad.Web):=by
 refine F.okX Cf (fun vs H Q E h=>?_) (fun cdv A outer s H vs Q E hr h=>?_)
 ·obtain⟨x,dx,p,ls,n,rfl,_⟩:=h
  rfl
 ·obtain⟨x,dx,p,ls,n,rfl,hx,hS,hok,q⟩:=h
  have hs:sizeLine=16777216:=sizeLine_eq;obtain⟨hne,h64,hn,hxs,hnd⟩:=id hok;have hl0:0<ls.length:=cj.mpr hne;obtain⟨x0,hx0⟩:∃ x0,ls[0]?=some x0:=⟨_,aa hl0⟩;have hx0l:=(hxs x0 (ay hx0)).1;refine⟨_,(aB (iY (aI C_looked_web hr wJ (aA (pv 1) aC)))
   (aB (Oc (pv 0) (cW jB (by rfl) tt.b_tuple (by decide +kernel) (aA (aN eX (by rfl) tt.b_sorted df (aA (pv 1) aC)) aC)) rfl)
   (aF (Oc (pv 0) (aN cV (by rfl) tt.b_len bh (aA (cU cK (pv 1) aG (fun _ _=>rfl)) aC)) rfl)))),?_⟩
  (try rw[cM]);(try rw[cxK1])
  refine⟨_,rfl,p,ls,n,rfl,hS,hok,fun H1 s1=>?_⟩;refine⟨_,rfl,p,ls,rfl,s1.seq hS,(by omega),fun ms D hD hperm hpw=>?_⟩;have s2:aJ H1 (upd H1 D (.lst (ms.map T))):=fun b o e=>by rw[aK (aM e hD)];exact e
  refine⟨D,_,rfl,.inl ⟨SqL.of aE,fun tp htp=>?_⟩⟩;have s3:aJ (upd H1 D (.lst (ms.map T))) (upd (upd H1 D (.lst (ms.map T))) tp (.tup (ms.map T))):=fun b o e=>by rw[aK (aM e htp)];exact e
  generalize hH3:upd (upd H1 D (.lst (ms.map T))) tp (.tup (ms.map T))=H3 at s3;have htp3:H3 tp=some (.tup (ms.map T)):=by rw[<- hH3];exact aE
  have s13:aJ H H3:=s1.trans (s2.trans s3);have hx3:=s13 x _ hx;have hxt:tp≠x:=fun z=>by subst z;rw[htp3] at hx3;cases hx3
  refine⟨_,rfl,x,ad.Web,dx,[],rfl,hx3,tt.cl_Web,tt.na_Web_words,(by show 0<1000;decide),?_⟩;have hS4:SqL K (upd H3 x (.ins ad.Web dx (kE "words" (.ref tp) []))) p (ls.map T):=Sy (s13.seq hS) hx3
  refine⟨_,rfl,p,_,_,_,rfl,rfl,hS4,cD (j:=0) (by rw[al,hx0];rfl),_,rfl,(by omega),_,rfl,x,ad.Web,dx,_,rfl,aE,tt.cl_Web,tt.na_Web_length,(by show 1<1000;decide),?_⟩;refine q tp ms _ hperm hpw (fun b o e hb=>?_) ?_ ?_
  ·rw[aK hb,aK hb]
   exact s13 b o e
  ·rw[aE,hx0l]
   rfl
  ·rw[aK hxt,aK hxt]
   exact htp3
def gR (C:Addr)(H:Hp)(x tp:Addr)(n:Nat)(ms:List (List Nat)):Prop:=(∃ dx,H x=some (.ins C dx (Hz tp (n:Nat))))∧H tp=some (.tup (ms.map T))
theorem gR.on {C:Addr}{H H':Hp}{x tp:Addr}{n:Nat}{ms:List (List Nat)}(h:gR C H x tp n ms)(s:aJ H H'):gR C H' x tp n ms:=let ⟨⟨dx,e⟩,t⟩:=h;⟨⟨dx,s _ _ e⟩,s _ _ t⟩
def gQ:Sp:=fun vs H Q _=>∃ t:List Nat,vs=[T t]∧(1<=t.length∧t.length<=1000)∧Q (T (t.take (t.length-1))) H
theorem oV {t:List Nat}(h:1<=t.length):gC t none (some (-1))=t.take (t.length-1):=by
 unfold gC;rw[HT.fX,fk,ly];show t.take (if (-1:Int)<0 then ((-1:Int)+(t.length:Int)).toNat else min (-1:Int).toNat t.length)=_;rw[if_pos (by decide),show ((-1:Int)+(t.length:Int)).toNat=t.length-1 by omega]
theorem Bt {f:Addr}{fd:FuncData}(F:Fun K "begin_of" "begin_of" gJ f fd)(tt:Txt K mg ad):bQ P w K mg base (CX1 P w) 1 f fd ["word"] gQ:=by
 refine F.okN Bd (fun vs H Q E h=>?_) (fun cdv A outer s H vs Q E hr h=>?_)
 ·obtain⟨t,rfl,_⟩:=h
  rfl
 ·obtain⟨t,rfl,hl,q⟩:=h
  have hs:sizeLine=16777216:=sizeLine_eq;refine⟨_,(aF (aV (bL mV (pv 0) cP (bK (nQ kD aG))))),?_⟩
  (try rw[cM]);(try rw[cxK1])
  refine⟨_,rfl,_,rfl,_,rfl,_,rfl,(by omega),?_⟩;rw[show -(1:Int) = -1 from rfl,oV hl.1];exact q
def lZ:Sp:=fun vs H Q _=>∃ t:List Nat,vs=[T t]∧(1<=t.length∧t.length<=1000)∧Q (T (t.drop 1)) H
theorem Jn {f:Addr}{fd:FuncData}(F:Fun K "end_of" "end_of" jL f fd)(tt:Txt K mg ad):bQ P w K mg base (CX1 P w) 1 f fd ["word"] lZ:=by
 refine F.okN Jd (fun vs H Q E h=>?_) (fun cdv A outer s H vs Q E hr h=>?_)
 ·obtain⟨t,rfl,_⟩:=h
  rfl
 ·obtain⟨t,rfl,hl,q⟩:=h
  have hs:sizeLine=16777216:=sizeLine_eq;refine⟨_,(aF (aV (bL mV (pv 0) (bK aG) cP))),?_⟩
  (try rw[cM]);(try rw[cxK1])
  refine⟨_,rfl,_,rfl,_,rfl,(by omega),?_⟩;have e:gC t (some 1) none=t.drop 1:=jE (k:=1) hl.1;rw[e];exact q
theorem aL {H:Hp}{D:Addr}{o:HO}(h:H D=none):aJ H (upd H D o):=fun b u e=>by rw[aK (aM e h)];exact e
theorem Rj {H G:Hp}(s:aJ H G):∃ H',H'=G∧aJ H H':=⟨G,rfl,s⟩
def Sq (K:ae)(H:Hp)(p:Addr)(xs:List V):Prop:=SqL K H p xs∨SqT K H p xs
theorem Sq.on {K:ae}{H H':Hp}{p:Addr}{xs:List V}(h:Sq K H p xs)(s:aJ H H'):Sq K H' p xs:=h.elim (fun z=>.inl (s.seq z)) fun z=>.inr (pV s z)
def beg (l:List Nat):List Nat:=l.take (l.length-1)
def Abc (x:List Nat):Prop:=∀ c∈x,97<=c∧c<103
theorem vZ {t:List Nat}:∀ {ls:List (List Nat)},inV (T t) (ls.map T)=decide (t∈ls)
 | []=>by simp[inV]
 | l::ls=>by
  have ih:=@vZ t ls;have e:inV (T t) ((l::ls).map T)=(eqV (T l) (T t)||inV (T t) (ls.map T)):=rfl;have e2:eqV (T l) (T t)=decide (t=l):=by
   show (tx l==tx t)=decide (t=l);rw[c7,beq_iff_eq,decide_eq_true_iff];exact⟨fun h=>(fZ h).symm,fun h=>by rw[h]⟩
  rw[e,ih,e2,c7,iy,decide_eq_true_iff,decide_eq_true_iff,decide_eq_true_iff,aw]
theorem lA (ls:List (List Nat)):(ls.map T).map (fun v=>v)=ls.map T:=j6 _
theorem itP {c A B:Prop}[Decidable c](hc:c)(h:A):if c then A else B:=by rw[if_pos hc];exact h
theorem itN {c A B:Prop}[Decidable c](hc:¬ c)(h:B):if c then A else B:=by rw[if_neg hc];exact h
theorem sX {xs:List V}{k:Nat}(h:k<=xs.length):fK xs (some (k:Int)) none=xs.drop k:=by
 unfold fK;rw[HT.fX,show HT.sIx xs.length 0 (some (k:Int))=min k xs.length from HT.eG _ _ k,eh h,cq (by rw[b9];exact af _)]
theorem Tl {xs:List V}{k:Nat}(h:k<=xs.length):fK xs none (some (k:Int))=xs.take k:=by
 unfold fK;rw[HT.fX,fk,ly,HT.eG,eh h]
theorem fM {i:Int}{n:Nat}(h:i.natAbs<=n)(hn:n<2 ^ 8000):Bg i:=fb h hn
theorem jW {n k:Nat}(h:n<2 ^ k)(hk:k<=8000):n<2 ^ 8000:=bz h (dl (by decide) hk)
theorem lF {ns:List Int}{j:Nat}(h:j<ns.length):(ns.map V.int)[j]?=some (.int (ns.getD j 0)):=by
 rw[al,aj,aa h];rfl
def yF:Sp:=fun vs H Q _=>∃ (num:Int) (pr:Nat),vs=[.int num,.int (pr:Nat)]∧Dt.dI pr∧pr<2 ^ 1000∧num % (pr:Int)≠0∧∀ inv:Int,Dt.Cg pr (inv*num) 1->0<=inv∧inv<pr->Q (.int inv) H
theorem Eu {f:Addr}{fd:FuncData}(F:Fun K "inverse" "inverse" iF f fd)(tt:Txt K mg ad):bQ P w K mg base (CX1 P w) 1 f fd ["number", "prime"] yF:=by
 refine F.okN cO (fun vs H Q E h=>?_) (fun cdv A outer s H vs Q E hr h=>?_)
 ·obtain⟨num,pr,rfl,_⟩:=h
  rfl
 ·obtain⟨num,pr,rfl,hp,hpl,h0,q⟩:=h
  have hp1:=hp.1;have hpos:(0:Int)<(pr:Int):=by omega
  have h8:=jW hpl (by decide);obtain⟨r,hr'⟩:∃ r:Nat,num % (pr:Int)=r:=⟨(num % pr).toNat,by have:=dc num (show (pr:Int)≠0 by omega);omega⟩;have hrl:r<pr:=by have:=ci num hpos;omega
  refine⟨_,(aB (aH (i:=2) cO.nd rfl (Or.inl rfl) (pv 1))
   (aB (aH (i:=3) cO.nd rfl (Or.inl rfl) (aU eL (pv 0) (pv 1)))
   (aB (aH (i:=4) cO.nd rfl (Or.inl rfl) aG)
   (aB (aH (i:=5) cO.nd rfl (Or.inl rfl) aG)
   (aB (jH PassesOwn.never (aW lM (pv 3) aG (aY _)) (aB (aH (i:=6) cO.nd rfl (Or.inl rfl) (aU Ny (pv 2) (pv 3)))
   (aB (aH (i:=7) cO.nd rfl (Or.inl rfl) (aU eK (pv 2) (aU fA (pv 6) (pv 3))))
   (aB (aH (i:=2) cO.nd rfl (Or.inl rfl) (pv 3))
   (aB (aH (i:=3) cO.nd rfl (Or.inl rfl) (pv 7))
   (aB (aH (i:=8) cO.nd rfl (Or.inl rfl) (aU eK (pv 4) (aU fA (pv 6) (pv 5))))
   (aB (aH (i:=4) cO.nd rfl (Or.inl rfl) (pv 5))
   (aF (aH (i:=5) cO.nd rfl (Or.inl rfl) (pv 8))))))))))
   (aF (aV (aU eL (pv 5) (pv 1))))))))),?_⟩
  (try rw[cM]);(try rw[cxK1])
  refine⟨_,rfl,?_⟩;refine⟨_,rfl,_,rfl,_,_,rfl,rfl,hpos,?_⟩;refine⟨fun m σ H2=>H2=H∧∃ (last rest:Nat) (lt t:Int) (v6 v7 v8:Option V),m=rest∧Dt.Euc pr num last rest lt t∧(last<=pr∧rest<=pr)∧σ=[some (.int num),some (.int (pr:Nat)),some (.int (last:Nat)),some (.int (rest:Nat)),some (.int lt),some (.int t),v6,v7,v8],
   ⟨_,rfl,pr,r,0,1,none,none,none,rfl,Dt.Euc.init hp hr' (by omega),⟨af _,by omega⟩,by rw[<- hr'];rfl⟩,?_⟩
  rintro m σ H2 ⟨rfl,last,rest,lt,t,v6,v7,v8,rfl,he,⟨hl,hrp⟩,rfl⟩;have hpo:=he.pos;obtain⟨ht,hlt⟩:=he.tle;refine⟨_,rfl,_,rfl,_,rfl,_,rfl,?_⟩;by_cases h1:m=1
  ·refine itN (by rw[decide_eq_true (by omega)];exact ak) ?_
   exact⟨_,rfl,_,rfl,_,_,rfl,rfl,hpos,q _ (he.fin h1) ⟨dc _ (by omega),ci _ hpos⟩⟩
  ·refine itP (by rw[decide_eq_false (by omega)];rfl) ?_
   refine⟨_,fun σ' H' z=>z,?_⟩;have hq1:=oa last m;have bm:Bg ((m:Nat):Int):=fM (n:=pr) (by rw[d0];exact hrp) h8;have bq:Bg ((last/m:Nat):Int):=fM (n:=pr) (by rw[d0];omega) h8;refine⟨_,rfl,_,rfl,_,_,rfl,rfl,⟨by show (0:Int)<(m:Int);omega,bm⟩,?_⟩;refine⟨_,rfl,_,rfl,_,rfl,_,_,rfl,rfl,⟨bq,bm⟩,_,_,rfl,rfl,?_⟩;have e1:((last:Nat):Int)-((last/m:Nat):Int)*((m:Nat):Int)=((last % m:Nat):Int):=by
    have h:=congrArg (fun n:Nat=>(n:Int)) (lj last m);simp only [gi,eg] at h;rw[fz] at h;omega
   refine⟨_,rfl,?_⟩;refine⟨_,rfl,?_⟩;refine⟨_,rfl,_,rfl,_,rfl,_,_,rfl,rfl,⟨bq,fM ht h8⟩,_,_,rfl,rfl,?_⟩;refine⟨_,rfl,?_⟩;refine⟨_,rfl,?_⟩;have hml:=jf last (show m>0 by omega);exact⟨last % m,hml,rfl,m,last % m,t,_,_,_,_,rfl,he.step h1,⟨hrp,by omega⟩,by rw[<- e1];rfl⟩
def low (back:Int)(pr:Nat)(top row:List Int):List Int:=ny (fun x y=>x-row.getD 0 0*back % (pr:Int)*y) (row.drop 1) (top.drop 1)
structure Ab (back:Int)(pr n:Nat)(top row:List Int):Prop where
 l1:row.length=n+1
 l2:top.length=n+1
 sz:n<=1000
 pos:0<pr
 ps:pr<2 ^ 1000
 b0:Bg (row.getD 0 0)
 bk:back.natAbs<=pr
 tp:∀ y∈top,y.natAbs<=pr
def Mc (K:ae):Sp:=fun vs H Q _=>∃ (a b:Addr) (back:Int) (pr n:Nat) (row top:List Int),vs=[.ref a,.ref b,.int back,.int (pr:Nat)]∧SqL K H a (row.map V.int)∧SqL K H b (top.map V.int)∧Ab back pr n top row∧∀ D H',H D=none->aJ H H'->H' D=some (.lst ((low back pr top row).map V.int))->Q (.ref D) H'
theorem Ec {f:Addr}{fd:FuncData}(F:Fun K "lowered" "lowered" gN f fd)(tt:Txt K mg ad):bQ P w K mg base (CX1 P w) 1 f fd ["row", "top", "back", "prime"] (Mc K):=by
 refine F.okN tP (fun vs H Q E h=>?_) (fun cdv A outer s H vs Q E hr h=>?_)
 ·obtain⟨a,b,back,pr,n,row,top,rfl,_⟩:=h
  rfl
 ·obtain⟨a,b,back,pr,n,row,top,rfl,hA,hB,ok,q⟩:=h
  have hs:sizeLine=16777216:=sizeLine_eq;obtain⟨l1,l2,sz,pos,ps,b0,bk,tp⟩:=ok;have hpos:(0:Int)<(pr:Int):=by omega
  have h8:=jW ps (by decide);have t0:=dc (row.getD 0 0*back) (show (pr:Int)≠0 by omega);have t1:=ci (row.getD 0 0*back) hpos;refine⟨_,(aB (aH (i:=4) tP.nd rfl (Or.inr rfl) (aU eL (aU fA (cU cK (pv 0) aG (fun _ _=>rfl)) (pv 2)) (pv 3)))
   (aB (bW (aW eT (pv 4) aG (aY _)) (aF (aV (bL hU (pv 0) (bK aG) cP))) bA)
   (aF (aV (Lw xV rfl (Sr (by rfl) tt.b_zip (aA (bL hU (pv 0) (bK aG) cP) (aA (bL hU (pv 1) (bK aG) cP) aC))) (fun cl C s' H' fp=>(aU eK (pv 0) (aU fA (pv 6) (pv 1))))))))),?_⟩
  (try rw[cM]);(try rw[cxK1])
  refine⟨_,rfl,a,_,_,_,rfl,rfl,hA,cD (j:=0) (lF (by omega)),_,rfl,_,_,rfl,rfl,⟨b0,fM bk h8⟩,_,rfl,_,_,rfl,rfl,hpos,?_⟩;refine⟨_,rfl,_,rfl,_,rfl,_,rfl,?_⟩;have cA:fK (row.map V.int) (some (1:Int)) none=(row.drop 1).map V.int:=by rw[jw];exact sX (k:=1) (by rw[aR];omega)
  have cB:fK (top.map V.int) (some (1:Int)) none=(top.drop 1).map V.int:=by rw[jw];exact sX (k:=1) (by rw[aR];omega)
  by_cases hz:row.getD 0 0*back % (pr:Int)=0
  ·refine itP (decide_eq_true hz) ?_
   refine⟨_,rfl,_,rfl,a,_,rfl,hA,fun p hp=>?_⟩;rw[cA];refine q p _ hp (aL hp) ?_;rw[aE]
   congr 3
   unfold low;rw[hz];refine kg fun i=>?_
   rw[kx];by_cases hi:i<n
   ·rw[aa (l:=row.drop 1) (by rw[b9];omega),aa (l:=top.drop 1) (by rw[b9];omega)]
    show some _=some _;rw[nn,lw]
   ·rw[cp (by rw[b9];omega)]
  ·refine itN (fun z=>hz (of_decide_eq_true z)) ?_
   refine⟨_,rfl,_,rfl,a,_,rfl,hA,fun p1 hp1=>?_⟩;rw[cA];have t1':=aL (o:=.lst ((row.drop 1).map V.int)) hp1;refine⟨_,rfl,_,rfl,b,_,rfl,t1'.seq hB,fun p2 hp2=>?_⟩;rw[cB];have t2':=aL (o:=.lst ((top.drop 1).map V.int)) hp2;refine⟨p1,p2,rfl,⟨_,SqL.of (t2' p1 _ aE)⟩,⟨_,SqL.of aE⟩,?_⟩;refine Mr (fun x y=>match x,y with | .int i,.int j=>.int (i-row.getD 0 0*back % (pr:Int)*j) | _,_=>.non) (SqL.of (t2' p1 _ aE)) (SqL.of aE) (by rw[aR,aR,b9,b9,l1,l2]) (by rw[aR,b9];omega) (fun i x y H' hx hy s' N hN=>?_) fun D H' hD s' hd=>?_
   ·rw[al] at hx hy
    obtain⟨i1,hi1,rfl⟩:=bi.mp hx;obtain⟨j1,hj1,rfl⟩:=bi.mp hy;have hj2:=tp j1 (pd (ay hj1));exact⟨_,rfl,_,rfl,_,rfl,_,_,rfl,rfl,⟨fM (n:=pr) (by omega) h8,fM hj2 h8⟩,_,_,rfl,rfl,hN H' (aJ.refl _)⟩
   ·have hD0:H D=none:=by
     cases e:H D with
     | none=>rfl
     | some o=>have:=(t1'.trans t2') D o e;rw[hD] at this;cases this
    refine q D H' hD0 (t1'.trans (t2'.trans s')) ?_;rw[hd]
    congr 3
    unfold low;rw[List.zipWith_map,List.map_zipWith]
def yU (K:ae):Sp:=fun vs H Q _=>∃ (a:Addr) (ns:List Int),vs=[.ref a]∧SqL K H a (ns.map V.int)∧(∀ H',aJ H H'->(∀ x∈ns,x=0)->Q .non H')∧∀ (p:Nat) (H':Hp),aJ H H'->p<ns.length->ns.getD p 0≠0->Q (.int (p:Nat)) H'
theorem iQ {f:Addr}{fd:FuncData}(F:Fun K "first_other_than_nought" "first_other_than_nought" bH f fd)(tt:Txt K mg ad):bQ P w K mg base (CX1 P w) 1 f fd ["numbers"] (yU K):=by
 refine F.okN cS (fun vs H Q E h=>?_) (fun cdv A outer s H vs Q E hr h=>?_)
 ·obtain⟨a,ns,rfl,_⟩:=h
  rfl
 ·obtain⟨a,ns,rfl,hA,q0,q1⟩:=h
  refine⟨_,(aB (dW PassesOwn.never rfl (Qm (by rfl) tt.b_enumerate (aA (pv 0) aC)) (Oj rfl (nJ (cG (i:=1) cS.nd rfl (Or.inl rfl)) (nJ (cG (i:=2) cS.nd rfl (Or.inl rfl)) Ga))) (aF (bW (aW lM (pv 2) aG (aY _)) (aF (aV (pv 1))) bA)))
   (aF (aV Ff))),?_⟩
  (try rw[cM]);(try rw[cxK1])
  refine⟨_,rfl,a,rfl,⟨_,hA⟩,?_⟩;refine Oq (K:=K) (a:=a) (xs:=ns.map V.int) (fun i σ H2=>aJ H H2∧(∀ j,j<i->ns.getD j 0=0)∧∃ v1 v2:Option V,σ=[some (.ref a),v1,v2]) ⟨aJ.refl _,fun j hj=>absurd hj (Nat.not_lt_zero j),none,none,rfl⟩ (fun i σ H2 _ h=>h.1.seq hA) ?_ ?_
  ·rintro i x p σ H2 hx hp ⟨s2,hz,v1,v2,rfl⟩
   have hi:i<ns.length:=by have:=(ag.mp hx).1;rwa [aR] at this
   rw[lF hi] at hx;obtain rfl:=ba hx;have t2:=aL (o:=.tup [.int (i:Nat),.int (ns.getD i 0)]) hp;refine⟨p,_,rfl,SqT.of aE,rfl,_,_,rfl,_,_,rfl,rfl,?_⟩;refine⟨_,rfl,_,rfl,_,rfl,_,rfl,?_⟩;by_cases h0:ns.getD i 0=0
   ·refine itN (by rw[decide_eq_true h0];exact ak) ?_
    exact⟨s2.trans t2,fun j hj=>by
     rcases du j i with z | z
     ·exact hz j z
     ·rw[show j=i by omega];exact h0,_,_,rfl⟩
   ·refine itP (by rw[decide_eq_false h0];rfl) ?_
    exact⟨_,rfl,q1 i _ (s2.trans t2) hi h0⟩
  ·rintro σ H2 ⟨s2,hz,v1,v2,rfl⟩
   rw[aR] at hz;exact q0 H2 s2 fun x hx=>by
    obtain⟨j,hj⟩:=g9 hx;have hjl:=(ag.mp hj).1
    have:=hz j hjl
    rwa [aj,hj] at this
structure Ma (M:List (List Int))(n pr E:Nat):Prop where
 len:M.length=n
 row:∀ r∈M,r.length=n
 sz:n<=100
 pm:Dt.dI pr
 ps:pr<2 ^ 1000
 be:∀ r∈M,∀ x∈r,x.natAbs<=E
 bd:E+n*(pr*pr)<2 ^ 8000
def Fc (K:ae):Sp:=fun vs H Q _=>∃ (a:Addr) (as:List Addr) (M:List (List Int)) (n pr E:Nat),vs=[.ref a,.int (pr:Nat)]∧SqL K H a (as.map V.ref)∧dZ K H as M∧Ma M n pr E∧∀ (r:Int) (H':Hp),aJ H H'->0<=r∧r<pr->Dt.Cg pr r (Dt.det n (Dt.ent M))->Q (.int r) H'
theorem nG {ns:List Int}{j:Nat}(h:j<ns.length):ns.getD j 0∈ns:=by
 rw[aj,aa h];exact cz h
theorem Gr {back:Int}{pr n:Nat}{top row:List Int}(h:Ab back pr n top row):(low back pr top row).length=n:=by
 unfold low
 have:=h.l1
 have:=h.l2
 rw[pi,b9,b9];omega
theorem Ha {back:Int}{pr n:Nat}{top row:List Int}(h:Ab back pr n top row){k:Nat}(hk:k<n):(low back pr top row).getD k 0=row.getD (k+1) 0-row.getD 0 0*back % (pr:Int)*top.getD (k+1) 0:=by
 have h1:=h.l1;have h2:=h.l2;unfold low;rw[aj,kx,jz,jz,ki 1 k,aa (show k+1<row.length by omega),aa (show k+1<top.length by omega),aj (l:=row) (i:=k+1),aa (show k+1<row.length by omega),aj (l:=top),aa (show k+1<top.length by omega)];rfl
theorem Qs {back:Int}{pr n E:Nat}{top row:List Int}(h:Ab back pr n top row)(hE:∀ x∈row,x.natAbs<=E):∀ x∈low back pr top row,x.natAbs<=E+pr*pr:=fun x hx=>by
 obtain⟨k,hk⟩:=g9 hx;have hkl:=(ag.mp hk).1;rw[Gr h] at hkl;have h1:=h.l1;have h2:=h.l2;have e:=Ha h hkl;rw[aj,hk] at e;have e:x=_:=e;have b1:=hE _ (nG (ns:=row) (j:=k+1) (by omega));have b2:=h.tp _ (nG (ns:=top) (j:=k+1) (by omega));have hp:=h.pos;have t0:=dc (row.getD 0 0*back) (show (pr:Int)≠0 by omega);have t1:=ci (row.getD 0 0*back) (show (0:Int)<pr by omega);have b3:=qm (row.getD (k+1) 0) (row.getD 0 0*back % (pr:Int)*top.getD (k+1) 0);rw[l8] at b3;have b4:(row.getD 0 0*back % (pr:Int)).natAbs*(top.getD (k+1) 0).natAbs<=pr*pr:=fj (by omega) b2;rw[e];omega
theorem lO {f:Addr}{fd:FuncData}(F:Fun K "determinant_rest" "determinant_rest" bI f fd)(tt:Txt K mg ad)(C_first_other_than_nought:Cal P w K mg base (CX1 P w) "first_other_than_nought" 1 ["numbers"] (yU K))(C_inverse:Cal P w K mg base (CX1 P w) "inverse" 1 ["number", "prime"] yF)(C_lowered:Cal P w K mg base (CX1 P w) "lowered" 1 ["row", "top", "back", "prime"] (Mc K)):bQ P w K mg base (CX1 P w) 2 f fd ["square", "prime"] (Fc K):=by
 refine F.okN bF (fun vs H Q E h=>?_) (fun cdv A outer s H vs Q E hr h=>?_)
 ·obtain⟨a,as,M,n,pr,E0,rfl,_⟩:=h
  rfl
 ·obtain⟨a,as,M,n,pr,B,rfl,hA,hR,ok,q⟩:=h
  have hs:sizeLine=16777216:=sizeLine_eq;have hu:=h9 (fV hr);obtain⟨len,row,sz,pm,ps,be,bd⟩:=ok;have hp1:=pm.1;have hpos:(0:Int)<(pr:Int):=by omega
  have h8:=jW ps (by decide);refine⟨_,(aB (aH (i:=2) bF.nd rfl (Or.inl rfl) (cW hX (by rfl) tt.b_list (by decide +kernel) (aA (pv 0) aC)))
   (aB (aH (i:=3) bF.nd rfl (Or.inl rfl) aG)
   (aB (jH PassesOwn.never (aW (At K rfl hu) (pv 2) (eA aC) (aY _)) (aB (aH (i:=4) bF.nd rfl (Or.inl rfl) (aI C_first_other_than_nought hr aO (aA (eI kG rfl (cF (pv 2)) (fun cl C s' H' fp=>(aU eL (cU (Jp K rfl) (pv 0) aG (fun _ _=>rfl)) (pv 2)))) aC)))
   (aB (bW (mE (yP (pv 4))) (aF (aV aG)) bA)
   (aB (aH (i:=5) bF.nd rfl (Or.inr rfl) (eI kJ rfl (cF (cU cK (pv 2) (pv 4) (fun _ _=>rfl))) (fun cl C s' H' fp=>(aU eL (pv 0) (pv 2)))))
   (aB (aH (i:=6) bF.nd rfl (Or.inr rfl) (aI C_inverse hr aO (aA (cU cK (pv 5) aG (fun _ _=>rfl)) (aA (pv 1) aC))))
   (aB (aH (i:=3) bF.nd rfl (Or.inl rfl) (aU eL (aU fA (pv 3) (cU cK (pv 5) aG (fun _ _=>rfl))) (pv 1)))
   (aB (Kn (t':=(fun D σ H=>∃ (x0 x2:V) (pr:Nat) (rst:Int) (p:Nat) (v5 v6:Option V),σ=[some x0,some (.int (pr:Nat)),some x2,some (.int rst),some (.int (p:Nat)),v5,v6]∧D.nx [some x0,some (.int (pr:Nat)),some x2,some (.int (if p % 2=1 then (pr:Int)-rst else rst)),some (.int (p:Nat)),v5,v6] H)) (bW (aW eT (aU eL (pv 4) aG) aG (aY _)) (aF (aH (i:=3) bF.nd rfl (Or.inl rfl) (aU eK (pv 1) (pv 3)))) bA) ?rA)
   (aF (Dl (i:=2) kI rfl (cF (aU xI (bL hU (pv 2) cP (bK (pv 4))) (bL hU (pv 2) (bK (aU eB (pv 4) aG)) cP))) (fun cl C s' H' fp=>(aI C_lowered hr aO (aA (pv 0) (aA (pv 6) (aA (pv 7) (aA (pv 2) aC)))))) bF.nd rfl rfl)))))))))
   (aF (aV (pv 3)))))),?_⟩
  (try rw[cM]);(try rw[cxK1])
  case rA =>
   rintro D σ H ⟨x0,x2,pr,rst,p,v5,v6,rfl,nxt⟩;refine⟨_,rfl,_,_,rfl,rfl,(by show (0:Int)<2;decide),_,rfl,_,rfl,_,rfl,?_⟩;by_cases h2:p % 2=1
   ·refine itP (decide_eq_true (by omega)) ?_
    refine⟨_,rfl,_,rfl,_,_,rfl,rfl,?_⟩;rw[if_pos h2] at nxt;exact nxt
   ·refine itN (fun z=>h2 (by have:=of_decide_eq_true z;omega)) ?_
    rw[if_neg h2] at nxt;exact nxt
  refine⟨_,rfl,a,_,rfl,.inl hA,fun L0 hL0=>?_⟩;have t0:=aL (o:=.lst (as.map V.ref)) hL0;refine⟨fun m σ G=>∃ (Lr:Addr) (bs:List Addr) (N:List (List Int)) (k:Nat) (rest:Int) (v4 v5 v6:Option V),aJ H G∧G Lr=some (.lst (bs.map V.ref))∧dZ K G bs N∧N.length=m∧(∀ r∈N,r.length=m)∧m+k=n∧(∀ r∈N,∀ x∈r,x.natAbs<=B+k*(pr*pr))∧(0<rest∧rest<pr)∧Dt.Cg pr (rest*Dt.det m (Dt.ent N)) (Dt.det n (Dt.ent M))∧σ=[some (.ref a),some (.int (pr:Nat)),some (.ref Lr),some (.int rest),v4,v5,v6],
   ⟨n,L0,as,M,0,1,none,none,none,t0,aE,hR.on t0,len,row,by omega,fun r hr x hx=>by rw[nk];exact be r hr x hx,⟨by decide,by omega⟩,by rw[im];exact Dt.Cg.refl _,rfl⟩,?_⟩
  rintro m σ G ⟨Lr,bs,N,k,rest,v4,v5,v6,sG,hL,hN,hNl,hNr,hmk,hNb,hrest,hcg,rfl⟩;have hbl:=hN.1;refine⟨_,rfl,(by show 0<=sizeLine;omega),fun E1 hE1=>?_⟩;have tE:=aL (o:=.lst []) hE1;refine⟨Lr,E1,_,rfl,rfl,SqL.of (tE Lr _ hL),SqL.of aE,_,rfl,?_⟩
  cases m with
  | zero =>
   obtain rfl:bs=[]:=bx.mp (by omega);refine oF ?_;refine⟨_,rfl,q rest _ (sG.trans tE) ⟨by omega,hrest.2⟩ ?_⟩;have e:rest*Dt.det 0 (Dt.ent N)=rest:=ld rest;rw[e] at hcg;exact hcg
  | succ m =>
   refine itP (by cases bs with | nil=>rw[gj] at hbl;omega | cons y r=>rfl) ?_;refine⟨_,fun σ' H' z=>z,?_⟩;have hL2:=tE Lr _ hL;have hN2:=hN.on tE;generalize upd G E1 (.lst [])=G2 at tE hL2 hN2;refine⟨_,rfl,Lr,rfl,⟨_,SqL.of hL2⟩,?_⟩;refine Vu (fun r=>r.getD 0 0 % (pr:Int)) (cI (SqL.of hL2)) hN2 (by omega) (fun a' r G' hrm hS s' N' hN'=>?_) fun D1 G3 hD1 s3 hd3=>?_
   ·exact⟨_,rfl,a',_,_,_,rfl,rfl,hS,cD (j:=0) (lF (by rw[hNr r hrm];omega)),_,rfl,_,_,rfl,rfl,hpos,hN' G' (aJ.refl _)⟩
   have hL3:=s3 Lr _ hL2;have hN3:=hN2.on s3;have sG3:=sG.trans (tE.trans s3);refine⟨D1,_,rfl,SqL.of hd3,fun G4 s4 hall=>?_,fun p G4 s4 hp hne=>?_⟩
   ·refine⟨_,rfl,_,rfl,rW ?_⟩
    refine q 0 G4 (sG3.trans s4) ⟨Int.le_refl _,hpos⟩ ?_;have h0:=Dt.Wn (m:=pr) (M:=N) (n:=m) (fun r hrm=>Int.dvd_of_emod_eq_zero (hall _ (au.mpr ⟨r,hrm,rfl⟩))) hNl;have h1:=(Dt.Cg.refl (m:=pr) rest).mul h0;rw[ga] at h1;exact h1.symm.trans hcg
   ·rw[aR] at hp
    obtain⟨rp,hrp⟩:∃ rp,N[p]?=some rp:=⟨_,aa hp⟩;obtain⟨bp,hbp⟩:∃ bp,bs[p]?=some bp:=⟨_,aa (by omega)⟩;have hrpm:=ay hrp;have hrl:=hNr rp hrpm;have hne2:rp.getD 0 0 % (pr:Int)≠0:=by
     rw[aj,al,hrp] at hne;exact hne
    refine⟨_,rfl,_,rfl,oF ?_⟩;have hL4:=s4 Lr _ hL3;have hN4:=hN3.on s4;have hS4:=hN4.2 p bp rp hbp hrp;refine⟨_,rfl,_,rfl,Lr,_,_,_,rfl,rfl,SqL.of hL4,cD (j:=p) (by rw[al,hbp];rfl),bp,rfl,⟨_,hS4⟩,?_⟩;refine nP (fun v=>match v with | .int i=>.int (i % (pr:Int)) | _=>.non) (cI hS4) (by rw[aR];omega) (fun v G' hv s' N' hN'=>?_) fun D2 G5 hD2 s5 hd5=>?_
    ·obtain⟨i,hi,rfl⟩:=au.mp hv
     exact⟨_,rfl,_,rfl,_,_,rfl,rfl,hpos,hN' G' (aJ.refl _)⟩
    have hd5:G5 D2=some (.lst ((rp.map fun i=>i % (pr:Int)).map V.int)):=by rw[hd5,br,br];rfl
    have htl:(rp.map fun i=>i % (pr:Int)).length=m+1:=by rw[aR,hrl]
    have htop:∀ k,k<m+1->(rp.map fun i=>i % (pr:Int)).getD k 0=rp.getD k 0 % (pr:Int):=fun k hk=>by
     rw[aj,al,aj,aa (by omega)];rfl
    have htb:∀ y∈rp.map (fun i=>i % (pr:Int)),y.natAbs<=pr:=fun y hy=>by
     obtain⟨i,_,rfl⟩:=au.mp hy
     have:=dc i (show (pr:Int)≠0 by omega)
     have:=ci i hpos
     omega
    have ht0:(rp.map fun i=>i % (pr:Int)).getD 0 0 % (pr:Int)≠0:=by rw[htop 0 (by omega),Int.emod_emod];exact hne2
    have htc:∀ k,k<m+1->Dt.Cg pr ((rp.map fun i=>i % (pr:Int)).getD k 0) ((N.getD p []).getD k 0):=fun k hk=>by
     rw[htop k hk,aj (l:=N),hrp];exact Dt.pE _
    generalize rp.map (fun i=>i % (pr:Int))=top at hd5 htl htop htb ht0 htc;have sG5:=sG3.trans (s4.trans s5);have hL5:=s5 Lr _ hL4;have hN5:=hN4.on s5;refine⟨_,rfl,D2,_,_,_,rfl,rfl,SqL.of hd5,cD (j:=0) (lF (by omega)),_,rfl,top.getD 0 0,pr,rfl,pm,ps,ht0,fun inv hinv hib=>?_⟩;have ht0b:=htb _ (nG (ns:=top) (j:=0) (by omega));refine⟨_,rfl,_,rfl,D2,_,_,_,rfl,rfl,SqL.of hd5,cD (j:=0) (lF (by omega)),_,_,rfl,rfl,⟨fM (n:=pr) (by omega) h8,fM ht0b h8⟩,_,rfl,_,_,rfl,rfl,hpos,?_⟩;refine⟨_,_,pr,_,p,_,_,rfl,?_⟩;have hpl:p<=bs.length:=by omega
    have c1:fK (bs.map V.ref) none (some ((p:Nat):Int))=(bs.take p).map V.ref:=by rw[lc];exact Tl (by rw[aR];omega)
    have c2:fK (bs.map V.ref) (some ((p:Nat)+1:Int)) none=(bs.drop (p+1)).map V.ref:=by rw[jw];exact sX (k:=p+1) (by rw[aR];omega)
    refine⟨_,rfl,_,rfl,_,rfl,Lr,_,rfl,SqL.of hL5,fun p1 hp1=>?_⟩;rw[c1];have u1:=aL (o:=.lst ((bs.take p).map V.ref)) hp1;refine⟨_,rfl,_,rfl,_,_,rfl,rfl,_,rfl,Lr,_,rfl,SqL.of (u1 Lr _ hL5),fun p2 hp2=>?_⟩;rw[c2];have u2:=aL (o:=.lst ((bs.drop (p+1)).map V.ref)) hp2;refine⟨p1,p2,_,_,rfl,rfl,SqL.of (u2 p1 _ aE),SqL.of aE,(by rw[aR,aR,cb,b9];omega),fun p3 hp3=>?_⟩;rw[show (bs.take p).map V.ref++(bs.drop (p+1)).map V.ref=(bs.eraseIdx p).map V.ref by rw[<- bn,List.eraseIdx_eq_take_drop_succ]];have u3:=aL (o:=.lst ((bs.eraseIdx p).map V.ref)) hp3;have u123:=u1.trans (u2.trans u3);refine⟨p3,rfl,⟨_,SqL.of aE⟩,?_⟩;have hlok:∀ r∈N,Ab inv pr m top r:=fun r hrm=>⟨hNr r hrm,htl,by omega,by omega,ps,fM (hNb r hrm _ (nG (by rw[hNr r hrm];omega))) (fb (jp (jj _ (show k<=n by omega)) B) bd),by omega,htb⟩
    have hsub:∀ r∈N.eraseIdx p,r∈N:=fun r hr=>List.mem_of_mem_eraseIdx hr
    refine Wl (low inv pr top) (cI (SqL.of aE)) ((hN5.erase p).on u123) (by rw[g8];split <;> omega) (fun a' r G' hrm hS s' N' hN'=>?_) fun D4 cs G6 hD4 s6 hd6 _ hR6=>?_
    ·exact⟨_,rfl,_,rfl,_,rfl,_,rfl,a',D2,inv,pr,m,r,top,rfl,hS,SqL.of (s' D2 _ (u123 D2 _ hd5)),hlok r (hsub r hrm),fun D G'' hD s'' hd=>hN' D G'' s'' hD hd⟩
    ·have hel:=Dt.elim (m:=pr) (n:=m) (p:=p) (M:=N) (top:=top) (back:=inv) (t:=fun r=>r.getD 0 0*inv % (pr:Int)) (low:=low inv pr top) (by omega) hNl htc (by rw[fz];exact hinv) (fun r _=>Dt.pE _) fun r hrm k hk=>Ha (hlok r hrm) hk
     obtain⟨r1,r2⟩:=Dt.Ip hrest hinv hel hcg;refine⟨m,fc m,D4,cs,(N.eraseIdx p).map (low inv pr top),k+1,_,_,_,_,sG5.trans (u123.trans s6),hd6,hR6,by rw[aR,g8,if_pos (by omega)];omega,fun r hr=>?_,by omega,fun r hr=>?_,r1,r2,rfl⟩
     ·obtain⟨r',hr',rfl⟩:=au.mp hr
      exact Gr (hlok r' (hsub r' hr'))
     ·obtain⟨r',hr',rfl⟩:=au.mp hr
      rw[gr,gd,<- pk];exact Qs (hlok r' (hsub r' hr')) (hNb r' (hsub r' hr'))
structure Br (M:List (List Int))(n:Nat):Prop where
 len:M.length=n
 row:∀ r∈M,r.length=n
 sz:n<=64
 sm:∀ r∈M,Dt.rs n r<=2 ^ 110
theorem Br.part {M:List (List Int)}{n:Nat}(h:Br M n)(i:Nat):Dt.pL ((M.take i).map (Dt.rs n))<2 ^ 8000:=by
 have h1:=Dt.No (R:=2 ^ 110) (l:=(M.take i).map (Dt.rs n)) fun x hx=>by
  obtain⟨r,hr,rfl⟩:=au.mp hx;exact h.sm r (pe hr)
 rw[aR,cb,<- jh] at h1
 have:=h.len
 have:=h.sz
 exact fb h1 (lg (by decide) (by omega))
def zC (K:ae):Sp:=fun vs H Q _=>∃ (a:Addr) (as:List Addr) (M:List (List Int)) (n:Nat),vs=[.ref a]∧SqL K H a (as.map V.ref)∧dZ K H as M∧Br M n∧∀ H',aJ H H'->Q (.int (Dt.pL (M.map (Dt.rs n)):Nat)) H'
theorem uJ {f:Addr}{fd:FuncData}(F:Fun K "greatest_of" "greatest_of" dB f fd)(tt:Txt K mg ad):bQ P w K mg base (CX1 P w) 1 f fd ["square"] (zC K):=by
 refine F.okN fW (fun vs H Q E h=>?_) (fun cdv A outer s H vs Q E hr h=>?_)
 ·obtain⟨a,as,M,n,rfl,_⟩:=h
  rfl
 ·obtain⟨a,as,M,n,rfl,hA,hR,ok,q⟩:=h
  have hs:sizeLine=16777216:=sizeLine_eq;have hrl:=hR.1;have hlen:=ok.len;have hsz:=ok.sz;refine⟨_,(aB (aH (i:=1) fW.nd rfl (Or.inl rfl) aG)
   (aB (dW PassesOwn.never rfl (cF (pv 0)) (cG (i:=2) fW.nd rfl (Or.inl rfl)) (aF (aH (i:=1) fW.nd rfl (Or.inl rfl) (aU fA (pv 1) (aN (wK rfl) (by rfl) tt.b_sum i8 (aA (eI oW rfl (cF (pv 2)) (fun cl C s' H' fp=>(aN Mh (by rfl) tt.b_abs PyProof.Rows.boot_abs (aA (pv 0) aC)))) aC))))))
   (aF (aV (pv 1))))),?_⟩
  (try rw[cM]);(try rw[cxK1])
  refine⟨_,rfl,a,rfl,⟨_,hA⟩,?_⟩;refine fH (K:=K) (a:=a) (xs:=as.map V.ref) (fun i σ G=>aJ H G∧∃ v2:Option V,σ=[some (.ref a),some (.int (Dt.pL ((M.take i).map (Dt.rs n)):Nat)),v2]) ⟨aJ.refl _,none,rfl⟩ (fun i σ G _ h=>h.1.seq hA) ?_ ?_
  ·rintro i v σ G hi ⟨sG,v2,rfl⟩
   obtain⟨a',r,rfl,hr',hS⟩:=(hR.on sG).at hi;have hrm:=ay hr';have hrl2:=ok.row r hrm;refine⟨_,rfl,_,rfl,a',rfl,⟨_,hS⟩,?_⟩;refine nP (fun v=>match v with | .int i=>.int (if i<0 then -i else i) | _=>.non) (cI hS) (by rw[aR];omega) (fun v G' hv s' N' hN'=>?_) fun D2 G5 hD2 s5 hd5=>?_
   ·obtain⟨i,hi,rfl⟩:=au.mp hv
    exact⟨_,rfl,_,rfl,hN' G' (aJ.refl _)⟩
   have hd5:G5 D2=some (.lst ((r.map fun i=>if i<0 then -i else i).map V.int)):=by rw[hd5,br,br];rfl
   refine⟨D2,_,rfl,SqL.of hd5,?_⟩;rw[Dt.Qg hrl2];have e:Dt.pL ((M.take (i+1)).map (Dt.rs n))=Dt.pL ((M.take i).map (Dt.rs n))*Dt.rs n r:=by rw[cn,hr',bn];exact Dt.Hb _ _
   refine⟨_,_,rfl,rfl,⟨fM (by rw[d0];exact af _) (ok.part i),fM (n:=2 ^ 110) (by rw[d0];exact ok.sm r hrm) (jW (k:=111) (by decide +kernel) (by decide))⟩,?_⟩;refine⟨sG.trans s5,some (.ref a'),?_⟩;rw[e,eg];rfl
  ·rintro σ G ⟨sG,v2,rfl⟩
   rw[aR,cq (by omega)];exact⟨_,rfl,q G sG⟩
def kts:List Int:=[133,211,598,652,721,850,1282,1417,1582,1681,1726,1837,1885,2017,2377,2383,2452,2476,2530,2611,2662,2698,2773,2878,2917,2980,2998,3082,3238,3250,3343,3421,3427,3670,3817,4162,4252,4447,4468,4621,4630,4747,4867,4891,4915,5128,5143,5236,5401,5587,5650,5803,5833,5923,5986,6202,6235,6286,6496,6526,6736,7093,7561,7696,7831,7855,7882,7927,8143,8248]
def yV:Sp:=fun vs H Q _=>∃ (j:Nat) (last:Int),vs=[.int (j:Nat),.int last]∧j<7∧Q (.int (kts.getD j 0)) H
theorem pC {f:Addr}{fd:FuncData}(F:Fun K "further_times" "further_times" cX f fd)(tt:Txt K mg ad):bQ P w K mg base (CX1 P w) 1 f fd ["place", "last"] yV:=by
 refine F.okN pG (fun vs H Q E h=>?_) (fun cdv A outer s H vs Q E hr h=>?_)
 ·obtain⟨j,last,rfl,_⟩:=h
  rfl
 ·obtain⟨j,last,rfl,hj,q⟩:=h
  have hkt:SqT K H ad.KNOWN_TIMES (kts.map V.int):=SqT.tupIs tt.kt;have hkl:(kts.map V.int).length=70:=rfl;refine⟨_,(aB (bW (aW lU (pv 0) (aN aX (by rfl) tt.b_len bh (aA (fU (v:=.ref ad.KNOWN_TIMES) (by rfl) tt.m_KNOWN_TIMES rfl) aC)) (aY _)) (aF (aV (cU oA (fU (v:=.ref ad.KNOWN_TIMES) (by rfl) tt.m_KNOWN_TIMES rfl) (pv 0) (fun _ _=>rfl)))) bA)
   Lp),?_⟩
  (try rw[cM]);(try rw[cxK1])
  refine⟨_,rfl,ad.KNOWN_TIMES,_,rfl,.inr hkt,_,_,rfl,rfl,_,rfl,?_⟩;rw[hkl];refine itP (decide_eq_true (by omega)) ?_;exact⟨_,rfl,ad.KNOWN_TIMES,_,_,_,rfl,rfl,hkt,cD (j:=j) (lF (by show j<70;omega)),q⟩
theorem Us:∀ j,j<7->kts.getD j 0*6277101735386680763835789423207666416102355444464034512896+1=((Dt.pr j:Nat):Int):=by decide +kernel
theorem Tt:∀ j,j<7->(kts.getD j 0).natAbs<2 ^ 20:=by decide +kernel
def Lo (K:ae):Sp:=fun vs H Q _=>∃ (a:Addr) (as:List Addr) (M:List (List Int)) (n:Nat),vs=[.ref a]∧SqL K H a (as.map V.ref)∧dZ K H as M∧Br M n∧2*Dt.pL (M.map (Dt.rs n))<Dt.md 7∧∀ H',aJ H H'->Q (.int (Dt.det n (Dt.ent M))) H'
theorem Uf {n p:Nat}(hn:n<=64)(hp:p<2 ^ 250):2 ^ 110+n*(p*p)<2 ^ 8000:=by
 have h1:n*(p*p)<=64*(2 ^ 250*2 ^ 250):=fj hn (fj (jl hp) (jl hp));exact fb (jp h1 _) (by decide +kernel)
theorem Br.rest {M:List (List Int)}{n p:Nat}(h:Br M n)(hp:Dt.dI p)(hl:p<2 ^ 250):Ma M n p (2 ^ 110) :=
 ⟨h.len,h.row,a5 h.sz (by decide),hp,bz hl (dl (by decide) (by decide)),fun r hr x hx=>a5 (Dt.Sz (h.row r hr) hx) (h.sm r hr),Uf h.sz hl⟩
theorem sL {f:Addr}{fd:FuncData}(F:Fun K "determinant" "determinant" eF f fd)(tt:Txt K mg ad)(C_greatest_of:Cal P w K mg base (CX1 P w) "greatest_of" 1 ["square"] (zC K))(C_determinant_rest:Cal P w K mg base (CX1 P w) "determinant_rest" 2 ["square", "prime"] (Fc K))(C_further_times:Cal P w K mg base (CX1 P w) "further_times" 1 ["place", "last"] yV)(C_inverse:Cal P w K mg base (CX1 P w) "inverse" 1 ["number", "prime"] yF) :
  bQ P w K mg base (CX1 P w) 3 f fd ["square"] (Lo K):=by
 refine F.okN bJ (fun vs H Q E h=>?_) (fun cdv A outer s H vs Q E hr h=>?_)
 ·obtain⟨a,as,M,n,rfl,_⟩:=h
  rfl
 ·obtain⟨a,as,M,n,rfl,hA,hR,ok,hlt,q⟩:=h
  have hs:sizeLine=16777216:=sizeLine_eq;have hdet:=Dt.Sv (M:=M) ok.len;have hbnd:=ok.part n;rw[cq (by rw[ok.len];exact af _)] at hbnd;generalize hB:Dt.pL (M.map (Dt.rs n))=B at hlt hdet hbnd;generalize hDD:Dt.det n (Dt.ent M)=DD at q hdet;have bB:Bg ((B:Nat):Int):=fM (by rw[d0];exact af _) hbnd;refine⟨_,(aB (aH (i:=1) bJ.nd rfl (Or.inl rfl) (aI C_greatest_of hr aO (aA (pv 0) aC)))
   (aB (aH (i:=2) bJ.nd rfl (Or.inl rfl) (aI C_determinant_rest hr aO (aA (pv 0) (aA (fU (by rfl) tt.g_FIRST_PRIME tt.r_FIRST_PRIME) aC))))
   (aB (aH (i:=3) bJ.nd rfl (Or.inl rfl) (fU (by rfl) tt.g_FIRST_PRIME tt.r_FIRST_PRIME))
   (aB (aH (i:=4) bJ.nd rfl (Or.inl rfl) aG)
   (aB (aH (i:=5) bJ.nd rfl (Or.inl rfl) aG)
   (aB (jH PassesOwn.never (aW Rn (pv 3) (aU fA aG (pv 1)) (aY _)) (aB (aH (i:=5) bJ.nd rfl (Or.inl rfl) (aI C_further_times hr aO (aA (pv 4) (aA (pv 5) aC))))
   (aB (aH (i:=4) bJ.nd rfl (Or.inl rfl) (aU eB (pv 4) aG))
   (aB (aH (i:=6) bJ.nd rfl (Or.inl rfl) (aU eB (aU fA (pv 5) (fU (by rfl) tt.g_STEP tt.r_STEP)) aG))
   (aB (aH (i:=7) bJ.nd rfl (Or.inl rfl) (aU eK (aI C_determinant_rest hr aO (aA (pv 0) (aA (pv 6) aC))) (pv 2)))
   (aB (aH (i:=2) bJ.nd rfl (Or.inl rfl) (aU eB (pv 2) (aU fA (aU eL (aU fA (pv 7) (aI C_inverse hr aO (aA (pv 3) (aA (pv 6) aC)))) (pv 6)) (pv 3))))
   (aF (aH (i:=3) bJ.nd rfl (Or.inl rfl) (aU fA (pv 3) (pv 6))))))))))
   (aB (bW (aW qC (pv 2) (pv 1) (aY _)) (aF (aV (aU eK (pv 2) (pv 3)))) bA)
   (aF (aV (pv 2)))))))))),?_⟩
  (try rw[cM]);(try rw[cxK1])
  refine⟨_,rfl,a,as,M,n,rfl,hA,hR,ok,fun G1 s1=>?_⟩;rw[hB];refine⟨_,rfl,a,as,M,n,2305843009213693951,2 ^ 110,rfl,s1.seq hA,hR.on s1,ok.rest Dt.Xa (by decide +kernel),fun res G2 s2 hres hcg=>?_⟩;rw[hDD] at hcg;refine⟨fun m σ G=>∃ (j:Nat) (res times:Int) (v6 v7:Option V),m=7-j∧j<=7∧aJ H G∧(0<=res∧res<(Dt.md j:Nat))∧Dt.Cg (Dt.md j:Nat) res DD∧σ=[some (.ref a),some (.int (B:Nat)),some (.int res),some (.int (Dt.md j:Nat)),some (.int (j:Nat)),some (.int times),v6,v7],
   ⟨_,0,res,0,none,none,rfl,by omega,s1.trans s2,hres,hcg,rfl⟩,?_⟩
  rintro m σ G ⟨j,res,times,v6,v7,rfl,hj,sG,hres,hcg,rfl⟩;refine⟨_,rfl,_,rfl,_,_,rfl,rfl,⟨fM (n:=2) (by decide) (by decide +kernel),bB⟩,_,_,rfl,rfl,_,rfl,?_⟩;by_cases hle:Dt.md j<=2*B
  ·refine itP (decide_eq_true (by omega)) ?_
   have hj7:j<7:=by
    rcases du j 7 with z | z
    ·exact z
    ·rw[show j=7 by omega] at hle
     omega
   obtain⟨k1,k2,k3,k4⟩:=Dt.Wo j hj7;have ePr:=Us j hj7;have hpp:=Dt.Nh hj7;have hp1:=hpp.1;have l1:=jW k1 (by decide);have l3:=jW k3 (by decide);have l4:=jW k4 (by decide);have bP:Bg ((Dt.pr j:Nat):Int):=fM (by rw[d0];exact af _) l1;have bM:Bg ((Dt.md j:Nat):Int):=fM (by rw[d0];exact af _) l3;refine⟨_,fun σ' H' z=>z,?_⟩;refine⟨_,rfl,_,rfl,j,times,rfl,hj7,?_⟩;refine⟨_,rfl,_,_,rfl,rfl,?_⟩;refine⟨_,rfl,_,_,rfl,rfl,⟨fM (jl (Tt j hj7)) (jW (k:=21) (by decide +kernel) (by decide)),fM (n:=2 ^ 200) (by decide +kernel) (jW (k:=201) (by decide +kernel) (by decide))⟩,_,_,rfl,rfl,?_⟩;refine⟨_,rfl,_,rfl,a,as,M,n,Dt.pr j,2 ^ 110,congrArg (fun z=>[V.ref a,V.int z]) ePr,sG.seq hA,hR.on sG,ok.rest hpp k1,fun r2 G3 s3 hr2 hc2=>?_⟩;rw[hDD] at hc2;refine⟨_,rfl,_,_,rfl,rfl,?_⟩;refine⟨_,rfl,_,rfl,_,rfl,_,rfl,((Dt.md j:Nat):Int),Dt.pr j,congrArg (fun z=>[V.int ((Dt.md j:Nat):Int),V.int z]) ePr,hpp,bz k1 (dl (by decide) (by decide)),(fun z=>k2 (by exact_mod_cast z)),fun inv hi hib=>?_⟩;have q1:=dc ((r2-res)*inv) (show ((Dt.pr j:Nat):Int)≠0 by omega);have q2:=ci ((r2-res)*inv) (show (0:Int)<((Dt.pr j:Nat):Int) by omega);obtain⟨c1,c2,c3⟩:=Dt.crt (M1:=Dt.md j) (pr:=Dt.pr j) (D:=DD) (res:=res) (r2:=r2) (inv:=inv) (by omega) (by omega) hcg hc2 hi hres;refine⟨_,_,rfl,rfl,⟨fM (n:=Dt.md j+Dt.pr j) (by omega) (bz (Nat.add_lt_add k3 k1) (by decide +kernel)),fM (n:=Dt.pr j) (by omega) l1⟩,_,rfl,_,_,rfl,rfl,(by show (0:Int)<_;rw[ePr];omega),_,rfl,_,_,rfl,rfl,⟨?_,bM⟩,_,_,rfl,rfl,?_⟩
   ·show Bg ((r2-res)*inv % _)
    rw[ePr];exact fM (n:=Dt.pr j) (by omega) l1
   refine⟨_,rfl,_,rfl,_,_,rfl,rfl,⟨bM,by rw[ePr];exact bP⟩,?_⟩;refine⟨7-(j+1),by omega,j+1,res+(r2-res)*inv % (Dt.pr j:Nat)*(Dt.md j:Nat),kts.getD j 0,some (.int (kts.getD j 0*6277101735386680763835789423207666416102355444464034512896+1)),some (.int (r2-res)),rfl,by omega,sG.trans s3,⟨c2,c3⟩,c1,?_⟩;rw[<- ePr,show ((Dt.md (j+1):Nat):Int)=(Dt.md j:Nat)*(kts.getD j 0*6277101735386680763835789423207666416102355444464034512896+1) by rw[ePr];exact eg ..];rfl
  ·refine itN (fun z=>hle (by have:=of_decide_eq_true z;omega)) ?_
   have hfr:=Dt.Ji (M:=Dt.md j) (D:=DD) (res:=res) (bd:=(B:Nat)) (by omega) (by omega) hcg hres;refine⟨_,rfl,_,rfl,_,_,rfl,rfl,_,rfl,?_⟩;by_cases hgt:((B:Nat):Int)<res
   ·rw[if_pos hgt] at hfr
    refine itP (decide_eq_true hgt) ?_;refine⟨_,rfl,_,rfl,_,_,rfl,rfl,?_⟩;rw[<- hfr] at q;exact q G sG
   ·rw[if_neg hgt] at hfr
    refine itN (fun z=>hgt (of_decide_eq_true z)) ?_;rw[<- hfr] at q;exact⟨_,rfl,q G sG⟩
def uH (words:List (List Nat))(o:List Nat):Int:=((words.countP fun w=>decide (w.drop 1=o):Nat):Int)
def vG (texts:List (List Nat))(t:List Nat)(words:List (List Nat)):List Int:=texts.map fun o=>if o=t then ((words.length:Nat):Int)-uH words t else-uH words o
theorem Gb {words:List (List Nat)}{o:List Nat}:((((words.map fun w=>w.drop 1).map T).countP fun y=>eqV y (T o):Nat):Int)=uH words o:=by
 unfold uH;rw[br,List.countP_map]
 congr 2
 funext w
 show (tx (w.drop 1)==tx o)=decide (w.drop 1=o);rw[c7,beq_iff_eq,decide_eq_true_iff];exact⟨fun h=>fZ h,fun h=>by rw[h]⟩
def Eb (K:ae):Sp:=fun vs H Q _=>∃ (a b:Addr) (texts words:List (List Nat)) (t:List Nat),vs=[.ref a,T t,.ref b]∧SqL K H a (texts.map T)∧SqL K H b (words.map T)∧(texts.length<=200∧words.length<=200∧∀ x∈words,1<=x.length∧x.length<=1000)∧∀ D H',H D=none->aJ H H'->H' D=some (.lst ((vG texts t words).map V.int))->Q (.ref D) H'
theorem uS {f:Addr}{fd:FuncData}(F:Fun K "choice_row" "choice_row" dA f fd)(tt:Txt K mg ad)(C_end_of:Cal P w K mg base (CX1 P w) "end_of" 1 ["word"] lZ):bQ P w K mg base (CX1 P w) 2 f fd ["texts", "text", "words"] (Eb K):=by
 refine F.okN lR (fun vs H Q E h=>?_) (fun cdv A outer s H vs Q E hr h=>?_)
 ·obtain⟨a,b,texts,words,t,rfl,_⟩:=h
  rfl
 ·obtain⟨a,b,texts,words,t,rfl,hA,hB,⟨h1,h2,h3⟩,q⟩:=h
  have hs:sizeLine=16777216:=sizeLine_eq;refine⟨_,(aB (aH (i:=3) lR.nd rfl (Or.inr rfl) (eI qQ rfl (cF (pv 2)) (fun cl C s' H' fp=>(aI C_end_of hr aO (aA (pv 0) aC)))))
   (aF (aV (eI qJ rfl (cF (pv 0)) (fun cl C s' H' fp=>(Nr (aW nK (pv 0) (pv 2) (aY _)) (aU eK (aN (Ct K rfl) (by rfl) tt.b_len bh (aA (pv 4) aC)) (Mu K rfl gg j7 na (vU K rfl) (pv 4) (aA (pv 2) aC))) (nQ kD (Mu K rfl gg j7 na (vU K rfl) (pv 4) (aA (pv 0) aC))))))))),?_⟩
  (try rw[cM]);(try rw[cxK1])
  refine⟨_,rfl,b,rfl,⟨_,hB⟩,?_⟩;refine nP (fun v=>T ((unT v).drop 1)) (cI hB) (by rw[aR];omega) (fun v G hv sg N hN=>?_) fun D1 G1 hD1 s1 hd1=>?_
  ·obtain⟨l,hl,rfl⟩:=au.mp hv
   have z:=hN G (aJ.refl _);rw[dS] at z;have hx:=h3 l hl;exact⟨_,rfl,l,rfl,⟨by omega,by omega⟩,z⟩
  have hd1:G1 D1=some (.lst ((words.map fun w=>w.drop 1).map T)):=by
   rw[hd1,br,br];refine congrArg (fun l=>some (HO.lst l)) (bv fun m _=>?_);show T ((unT (T m)).drop 1)=T (m.drop 1);rw[dS]
  refine⟨_,rfl,a,rfl,⟨_,s1.seq hA⟩,?_⟩;refine nP (fun v=>.int (if unT v=t then ((words.length:Nat):Int)-uH words t else-uH words (unT v))) (cI (s1.seq hA)) (by rw[aR];omega) (fun v G hv sg N hN=>?_) fun D2 G2 hD2 s2 hd2=>?_
  ·obtain⟨o,ho,rfl⟩:=au.mp hv
   have z:=hN G (aJ.refl _);rw[dS] at z;have hdG:=sg D1 _ hd1;refine⟨_,rfl,_,rfl,_,rfl,_,rfl,_,rfl,?_⟩;by_cases hot:o=t
   ·rw[if_pos hot] at z
    refine itP (decide_eq_true hot) ?_;refine⟨_,rfl,D1,_,rfl,.inl (SqL.of hdG),_,rfl,.inl ⟨rfl,_,SqL.of hdG⟩,_,rfl,D1,_,_,rfl,rfl,SqL.of hdG,jN _,rfl,_,_,rfl,rfl,?_⟩;rw[Gb,aR,aR];exact z
   ·rw[if_neg hot] at z
    refine itN (fun y=>hot (of_decide_eq_true y)) ?_;refine⟨_,rfl,.inl ⟨rfl,_,SqL.of hdG⟩,_,rfl,D1,_,_,rfl,rfl,SqL.of hdG,jN _,rfl,_,rfl,?_⟩;rw[Gb];exact z
  have hD0:H D2=none:=by
   cases e:H D2 with
   | none=>rfl
   | some o=>have:=s1 D2 o e;rw[hD2] at this;cases this
  refine q D2 G2 hD0 (s1.trans s2) ?_;rw[hd2];unfold vG;rw[br,br];refine congrArg (fun l=>some (HO.lst l)) (bv fun m _=>?_);show V.int (if unT (T m)=t then _ else _)=V.int (if m=t then _ else _);rw[dS]
inductive bG (H:Hp)(g:List Nat->List (List Nat)):List (List Nat)->List (Key×V)->Prop
 | nil:bG H g [] []
 | cons {o:List Nat} {a:Addr} {ls:List (List Nat)} {kvs:List (Key×V)}:H a=some (.lst ((g o).map T))->bG H g ls kvs->bG H g (o::ls) ((ca (tx o),.ref a)::kvs)
theorem bG.keys {H:Hp}{g:List Nat->List (List Nat)}{ls:List (List Nat)}{kvs:List (Key×V)}(h:bG H g ls kvs):kvs.map (·.1)=ls.map fun t=>ca (tx t):=by
 induction h with
 | nil=>rfl
 | cons _ _ ih=>rw[am,am,ih]
theorem bG.len {H:Hp}{g:List Nat->List (List Nat)}{ls:List (List Nat)}{kvs:List (Key×V)}(h:bG H g ls kvs):kvs.length=ls.length:=by
 have:=congrArg fo h.keys
 rwa [aR,aR] at this
theorem bG.mono {H H':Hp}{g:List Nat->List (List Nat)}{ls:List (List Nat)}{kvs:List (Key×V)}(s:aJ H H')(h:bG H g ls kvs):bG H' g ls kvs:=by
 induction h with
 | nil=>exact .nil
 | cons e _ ih=>exact .cons (s _ _ e) ih
theorem bG.updD {H:Hp}{g:List Nat->List (List Nat)}{ls:List (List Nat)}{kvs k:List (Key×V)}{D:Addr}{o:HO}(hd:H D=some (.dK k))(h:bG H g ls kvs):bG (upd H D o) g ls kvs:=by
 induction h with
 | nil=>exact .nil
 | @cons _ a _ _ e _ ih =>
  have hne:a≠D:=fun z=>by rw[z,hd] at e;cases e
  exact .cons (by rw[aK hne];exact e) ih
theorem bG.snoc {H:Hp}{g:List Nat->List (List Nat)}{ls:List (List Nat)}{kvs:List (Key×V)}{o:List Nat}{a:Addr}(h:bG H g ls kvs)(e:H a=some (.lst ((g o).map T))):bG H g (ls++[o]) (kvs++[(ca (tx o),.ref a)]):=by
 induction h with
 | nil=>exact .cons e .nil
 | cons e1 _ ih=>exact .cons e1 ih
theorem bG.get {H:Hp}{g:List Nat->List (List Nat)}{ls:List (List Nat)}{kvs:List (Key×V)}{o:List Nat}(h:bG H g ls kvs)(ho:o∈ls):∃ a,eO kvs (ca (tx o))=some (.ref a)∧H a=some (.lst ((g o).map T)):=by
 induction h with
 | nil=>cases ho
 | @cons o' a _ _ e _ ih =>
  by_cases hoo:o'=o
  ·subst hoo
   exact⟨a,gS rfl,e⟩
  ·obtain⟨b,h1,h2⟩:=ih ((aw.mp ho).resolve_left (Ne.symm hoo))
   exact⟨b,by rw[fY (fun z=>hoo (fZ (g0 z)))];exact h1,h2⟩
theorem iW {H G:Hp}{D:Addr}(s:aJ H G)(h:G D=none):H D=none:=by
 cases e:H D with
 | none=>rfl
 | some o=>exact absurd ((s D o e).symm.trans h) (fun z=>nomatch z)
def kF (ls:List (List Nat))(g:List Nat->List (List Nat)):List (List Int):=ls.map fun t=>vG ls t (g t)
def pR (K:ae):Sp:=fun vs H Q _=>∃ (a:Addr) (ls:List (List Nat)) (kvs:List (Key×V)) (g:List Nat->List (List Nat)),vs=[.ref a]∧H a=some (.dK kvs)∧bG H g ls kvs∧(ls.length<=64∧∀ o∈ls,(g o).length<=200∧∀ x∈g o,1<=x.length∧x.length<=1000) ∧
 Br (kF ls g) ls.length∧2*Dt.pL ((kF ls g).map (Dt.rs ls.length))<Dt.md 7∧∀ H',aJ H H'->Q (.int (Dt.det ls.length (Dt.ent (kF ls g)))) H'
theorem mB {f:Addr}{fd:FuncData}(F:Fun K "choices_counted" "choices_counted" bY f fd)(tt:Txt K mg ad)(C_determinant:Cal P w K mg base (CX1 P w) "determinant" 3 ["square"] (Lo K))(C_choice_row:Cal P w K mg base (CX1 P w) "choice_row" 2 ["texts", "text", "words"] (Eb K)) :
  bQ P w K mg base (CX1 P w) 4 f fd ["ways"] (pR K):=by
 refine F.okN iR (fun vs H Q E h=>?_) (fun cdv A outer s H vs Q E hr h=>?_)
 ·obtain⟨a,ls,kvs,g,rfl,_⟩:=h
  rfl
 ·obtain⟨a,ls,kvs,g,rfl,hd,hwa,⟨h64,hg⟩,hsq,hpl,q⟩:=h
  have hs:sizeLine=16777216:=sizeLine_eq;refine⟨_,(aB (aH (i:=1) iR.nd rfl (Or.inr rfl) (cW (Ea rfl) (by rfl) tt.b_list (by decide +kernel) (aA (pv 0) aC)))
   (aF (aV (aI C_determinant hr aO (aA (eI kR rfl (cF (pv 1)) (fun cl C s' H' fp=>(aI C_choice_row hr aO (aA (pv 2) (aA (pv 0) (aA (jY (fV hr) (pv 1) (pv 0) (fun _ _=>rfl)) aC)))))) aC))))),?_⟩
  (try rw[cM]);(try rw[cxK1])
  refine⟨_,rfl,a,ls,kvs,rfl,hd,hwa.keys,fun D1 hD1=>?_⟩;have s1:=aL (o:=.lst (ls.map T)) hD1;refine⟨_,rfl,D1,rfl,⟨_,SqL.of aE⟩,?_⟩;refine Sm (K:=K) (fun v=>vG ls (unT v) (g (unT v))) (cI (SqL.of aE)) (by rw[aR];omega) (fun v G hv sg N hN=>?_) fun D2 bs G2 hD2 s2 hd2 hne2 hR2=>?_
  ·obtain⟨t,ht,rfl⟩:=au.mp hv
   rw[dS] at hN;obtain⟨b,hb1,hb2⟩:=((hwa.mono s1).mono sg).get ht;have hget:nL G a (T t) (some (.ref b)):=by rw[<- hb1];exact nL.k (k:=ca (tx t)) (sg a _ (s1 a _ hd))
   have hgt:=hg t ht;exact⟨_,rfl,_,rfl,_,rfl,_,rfl,a,_,rfl,hget,D1,b,ls,g t,t,rfl,SqL.of (sg D1 _ aE),SqL.of hb2,⟨by omega,hgt.1,hgt.2⟩,fun D H' hD s' hd'=>hN D H' s' hD hd'⟩
  rw[show (ls.map T).map (fun v=>vG ls (unT v) (g (unT v)))=kF ls g from by
   unfold kF;rw[br];refine bv fun m _=>?_
   show vG ls (unT (T m)) (g (unT (T m)))=_;rw[dS]] at hR2
  exact⟨D2,bs,kF ls g,ls.length,rfl,SqL.of hd2,hR2,hsq,hpl,fun H' s'=>q H' ((s1.trans s2).trans s')⟩
theorem vV {H:Hp}{g:List Nat->List (List Nat)}{ls:List (List Nat)}{kvs:List (Key×V)}(h:bG H g ls kvs){o:List Nat}(ho:o∉ls):eO kvs (ca (tx o))=none:=by
 induction h with
 | nil=>rfl
 | @cons o' a _ _ e _ ih =>
  rw[fY (fun z=>ho (by rw[fZ (g0 z)];exact ar ..))];exact ih fun z=>ho (ah _ z)
theorem bG.cong {H:Hp}{g g':List Nat->List (List Nat)}{ls:List (List Nat)}{kvs:List (Key×V)}(h:bG H g ls kvs)(e:∀ t∈ls,g t=g' t):bG H g' ls kvs:=by
 induction h with
 | nil=>exact .nil
 | @cons o a _ _ e1 _ ih=>exact .cons (by rw[<- e o (ar ..)];exact e1) (ih fun t ht=>e t (ah _ ht))
theorem Hn {words:List (List Nat)}{o:List Nat}:(uH words o).natAbs<=words.length:=by
 unfold uH
 have:=List.countP_le_length (p:=fun w=>decide (w.drop 1=o)) (l:=words)
 omega
theorem Ls {texts words:List (List Nat)}{t:List Nat}{x:Int}(hx:x∈vG texts t words):x.natAbs<=words.length:=by
 obtain⟨o,_,rfl⟩:=au.mp hx;have h1:=Hn (words:=words) (o:=t);have h2:=Hn (words:=words) (o:=o);have h3:0<=uH words t:=Int.natCast_nonneg _;show (if o=t then ((words.length:Nat):Int)-uH words t else-uH words o).natAbs<=_;split <;> omega
theorem Nf {f:Nat->Nat}{c:Nat}:∀ {n:Nat},(∀ j,j<n->f j<=c)->Dt.sN n f<=n*c:=fun {n} h=>by
 have h1:Dt.sN n f<=Dt.sN n fun _=>1*c:=Dt.Lm fun j hj=>by rw[gd];exact h j hj
 have h2:∀ n:Nat,Dt.sN n (fun _=>1)=n:=fun n=>by
  induction n with
  | zero=>rfl
  | succ n ih=>show Dt.sN n (fun _=>1)+1=n+1;rw[ih]
 rw[Dt.Fk,h2] at h1;exact h1
theorem My {ls:List (List Nat)}{g:List Nat->List (List Nat)}(h64:ls.length<=64)(hg:∀ o∈ls,(g o).length<=64):Br (kF ls g) ls.length∧2*Dt.pL ((kF ls g).map (Dt.rs ls.length))<Dt.md 7:=by
 have hrow:∀ r∈kF ls g,Dt.rs ls.length r<=4096:=fun r hr=>by
  obtain⟨t,ht,rfl⟩:=au.mp hr;have h1:Dt.rs ls.length (vG ls t (g t))<=ls.length*64:=Nf fun j hj=>by
   have hl:j<(vG ls t (g t)).length:=by unfold vG;rw[aR];exact hj
   rw[aj,aa hl];exact a5 (Ls (cz hl)) (hg t ht)
  omega
 have hlen:(kF ls g).length=ls.length:=aR ..;refine⟨⟨hlen,fun r hr=>?_,h64,fun r hr=>a5 (hrow r hr) (by decide)⟩,?_⟩
 ·obtain⟨t,_,rfl⟩:=au.mp hr
  exact aR ..
 ·have h1:=Dt.No (R:=4096) (l:=(kF ls g).map (Dt.rs ls.length)) fun x hx=>by
   obtain⟨r,hr,rfl⟩:=au.mp hx;exact hrow r hr
  rw[aR,hlen] at h1;have h2:4096 ^ ls.length<=4096 ^ 64:=dl (by decide) h64;have h3:2*4096 ^ 64<Dt.md 7:=by decide +kernel
  exact fb (ie 2 (a5 h1 h2)) h3
theorem Ue {ts:List (List Nat)}(nd:ts.Nodup)(g:List Nat->List (List Nat)):Dt.det ts.length (Dt.ent (kF ts g))=((Dt.nC ts g:Nat):Int):=Dt.Ud nd g
def Dr (K:ae):Sp:=fun vs H Q _=>∃ (a:Addr) (ms:List (List Nat)) (one other:List Nat),vs=[.ref a,T one,T other]∧SqA K H a (ms.map T)∧(ms.length<=60∧∀ x∈ms,1<=x.length∧x.length<=1000)∧∀ (b:Bool) (H':Hp),aJ H H'->(b=true↔Wd.Bal ms one other)->Q (.bl b) H'
theorem Dm {f:Addr}{fd:FuncData}(F:Fun K "is_even" "is_even" fQ f fd)(tt:Txt K mg ad)(C_begin_of:Cal P w K mg base (CX1 P w) "begin_of" 1 ["word"] gQ)(C_end_of:Cal P w K mg base (CX1 P w) "end_of" 1 ["word"] lZ):bQ P w K mg base (CX1 P w) 2 f fd ["words", "one", "other"] (Dr K):=by
 refine F.okN mM (fun vs H Q E h=>?_) (fun cdv A outer s H vs Q E hr h=>?_)
 ·obtain⟨a,ms,one,other,rfl,_⟩:=h
  rfl
 ·obtain⟨a,ms,one,other,rfl,hS,⟨hl,hx⟩,q⟩:=h
  have hs:sizeLine=16777216:=sizeLine_eq;have hu:=h9 (fV hr);refine⟨_,(aB (aH (i:=3) mM.nd rfl (Or.inl rfl) (aU xI (eI yY rfl (xJ K rfl (pv 0)) (fun cl C s' H' fp=>(aI C_begin_of hr aO (aA (pv 0) aC)))) (eA (aA (pv 2) aC))))
   (aB (aH (i:=4) mM.nd rfl (Or.inl rfl) (aU xI (eI zF rfl (xJ K rfl (pv 0)) (fun cl C s' H' fp=>(aI C_end_of hr aO (aA (pv 0) aC)))) (eA (aA (pv 1) aC))))
   (aF (aV (iV (rN hu) (aN eX (by rfl) tt.b_sorted df (aA (pv 3) aC)) (aN eX (by rfl) tt.b_sorted df (aA (pv 4) aC)) (aY _)))))),?_⟩
  (try rw[cM]);(try rw[cxK1])
  refine⟨_,rfl,a,ms.map T,_,rfl,hS,aJ.refl _,fun J rd=>?_⟩;refine nP (fun v=>T (beg (unT v))) rd (by rw[aR];omega) (fun v G hv sg N hN=>?_) fun D1 H1 hD1 s1 hd1=>?_
  ·obtain⟨l,hl,rfl⟩:=au.mp hv
   have z:=hN G (aJ.refl _);rw[dS] at z;have hx:=hx l hl;exact⟨_,rfl,l,rfl,⟨by omega,by omega⟩,z⟩
  rw[lJ (f:=fun l=>T (beg l)),show ms.map (fun l=>T (beg l))=(ms.map beg).map T by rw[br];rfl] at hd1;refine⟨_,rfl,(by show 1<=sizeLine;omega),fun e1 he1=>?_⟩;have t1:=aL (o:=.lst [T other]) he1;refine⟨D1,e1,_,_,rfl,rfl,SqL.of (t1 D1 _ hd1),SqL.of aE,(by rw[aR,aR];show _+1<=sizeLine;omega),fun D2 hD2=>?_⟩;have t2:=s1.trans (t1.trans (aL (o:=.lst ((ms.map beg).map T++[T other])) hD2));have hd2:upd (upd H1 e1 (.lst [T other])) D2 (.lst ((ms.map beg).map T++[T other])) D2=some (.lst ((ms.map beg++[other]).map T)):=by rw[aE,bn];rfl
  generalize upd (upd H1 e1 (.lst [T other])) D2 (.lst ((ms.map beg).map T++[T other]))=H2 at t2 hd2;refine⟨_,rfl,a,ms.map T,_,rfl,hS.on t2,aJ.refl _,fun J rd=>?_⟩;refine nP (fun v=>T ((unT v).drop 1)) rd (by rw[aR];omega) (fun v G hv sg N hN=>?_) fun D3 H3 hD3 s3 hd3=>?_
  ·obtain⟨l,hl,rfl⟩:=au.mp hv
   have z:=hN G (aJ.refl _);rw[dS] at z;have hx:=hx l hl;exact⟨_,rfl,l,rfl,⟨by omega,by omega⟩,z⟩
  rw[lJ (f:=fun l=>T (l.drop 1)),show ms.map (fun l=>T (l.drop 1))=(ms.map fun l=>l.drop 1).map T by rw[br];rfl] at hd3;refine⟨_,rfl,(by show 1<=sizeLine;omega),fun e2 he2=>?_⟩;have t3:=aL (o:=.lst [T one]) he2;refine⟨D3,e2,_,_,rfl,rfl,SqL.of (t3 D3 _ hd3),SqL.of aE,(by rw[aR,aR];show _+1<=sizeLine;omega),fun D4 hD4=>?_⟩;have t4:=s3.trans (t3.trans (aL (o:=.lst ((ms.map fun l=>l.drop 1).map T++[T one])) hD4));have hd4:upd (upd H3 e2 (.lst [T one])) D4 (.lst ((ms.map fun l=>l.drop 1).map T++[T one])) D4=some (.lst (((ms.map fun l=>l.drop 1)++[one]).map T)):=by rw[aE,bn];rfl
  generalize upd (upd H3 e2 (.lst [T one])) D4 (.lst ((ms.map fun l=>l.drop 1).map T++[T one]))=H4 at t4 hd4;refine⟨_,rfl,D2,ms.map beg++[other],rfl,SqL.of (t4 D2 _ hd2),(by rw[aq,aR];show _+1<64;omega),fun so1 E1 hE1 hp1 hw1=>?_⟩;have t5:=aL (o:=.lst (so1.map T)) hE1;refine⟨_,rfl,D4,(ms.map fun l=>l.drop 1)++[one],rfl,SqL.of (t5 D4 _ hd4),(by rw[aq,aR];show _+1<64;omega),fun so2 E2 hE2 hp2 hw2=>?_⟩;have t6:=aL (o:=.lst (so2.map T)) hE2;refine⟨E1,E2,so1,so2,rfl,rfl,SqL.of (t6 E1 _ aE),SqL.of aE,?_⟩;refine q _ _ (t2.trans (t4.trans (t5.trans t6))) ?_;rw[decide_eq_true_iff,<- Dt.Ps];constructor
  ·intro e
   subst e;exact hp1.symm.trans hp2
  ·intro h
   exact Wd.gW (hp1.trans (oe h hp2.symm)) hw1 hw2
theorem bG.app {G:Hp}{g:List Nat->List (List Nat)}{ts:List (List Nat)}{kvs:List (Key×V)}{t x:List Nat}{b:Addr}(h:bG G g ts kvs):ts.Nodup->(kvs.map (·.2)).Nodup->t∈ts->eO kvs (ca (tx t))=some (.ref b)->bG (upd G b (.lst ((g t++[x]).map T))) (fun u=>if u=t then g t++[x] else g u) ts kvs:=by
 have vm:∀ {kvs:List (Key×V)} {k:Key} {v:V},eO kvs k=some v->v∈kvs.map (·.2):=fun {kvs k v}=>by
  induction kvs with
  | nil=>intro e;cases e
  | cons kv kvs ih =>
   intro e;obtain⟨k',v'⟩:=kv;by_cases hk:k'=k
   ·rw[gS hk] at e
    cases e;exact ar ..
   ·rw[fY hk] at e
    exact ah _ (ih e)
 have no:∀ {ts:List (List Nat)} {kvs:List (Key×V)},bG G g ts kvs->t∉ts->V.ref b∉kvs.map (·.2)->bG (upd G b (.lst ((g t++[x]).map T))) (fun u=>if u=t then g t++[x] else g u) ts kvs:=fun {ts kvs} h=>by
  induction h with
  | nil=>intro _ _;exact .nil
  | @cons o a _ _ e _ ih =>
   intro h1 h2;have hne:o≠t:=fun z=>h1 (z▸ar ..)
   have hab:a≠b:=fun z=>h2 (z▸ar ..)
   exact .cons (by rw[aK hab,if_neg hne];exact e) (ih (fun z=>h1 (ah _ z)) fun z=>h2 (ah _ z))
 induction h with
 | nil=>intro _ _ h;cases h
 | @cons o a _ _ e hr ih =>
  intro nd nv ht hv;rw[ck] at nd;rw[am,ck] at nv;by_cases hot:o=t
  ·subst hot
   rw[gS rfl] at hv;cases hv;exact .cons (by rw[aE,if_pos rfl]) (no hr nd.1 nv.1)
  ·rw[fY (fun z=>hot (fZ (g0 z)))] at hv
   have hab:a≠b:=fun z=>nv.1 (z▸vm hv)
   exact .cons (by rw[aK hab,if_neg hot];exact e) (ih nd.2 nv.2 ((aw.mp ht).resolve_left (Ne.symm hot)) hv)
theorem Hm {us:List (List Nat)}{x t:List Nat}:Dt.og (us++[x]) t=if t=beg x then Dt.og us t++[x] else Dt.og us t:=by
 unfold Dt.og;rw[fu];by_cases h:t=beg x
 ·rw[if_pos h,dq (p:=fun w=>decide (Wd.beg w=t)) (decide_eq_true h.symm),lq]
 ·rw[if_neg h,di (p:=fun w=>decide (Wd.beg w=t)) (fun z=>h (of_decide_eq_true z).symm),lq,dv]
def zW (K:ae):Sp:=fun vs H Q _=>∃ (a:Addr) (ms:List (List Nat)),vs=[.ref a]∧SqA K H a (ms.map T)∧(ms.length<=1000∧∀ x∈ms,1<=x.length∧x.length<=1000)∧∀ (D:Addr) (kvs:List (Key×V)) (ts:List (List Nat)) (H':Hp),H D=none->aJ H H'->H' D=some (.dK kvs)->bG H' (Dt.og ms) ts kvs->ts.Nodup->(∀ t,t∈ts↔∃ x∈ms,beg x=t)->Q (.ref D) H'
theorem Ay {f:Addr}{fd:FuncData}(F:Fun K "by_begin" "by_begin" gK f fd)(tt:Txt K mg ad)(C_begin_of:Cal P w K mg base (CX1 P w) "begin_of" 1 ["word"] gQ):bQ P w K mg base (CX1 P w) 2 f fd ["words"] (zW K):=by
 refine F.okN kM (fun vs H Q E h=>?_) (fun cdv A outer s H vs Q E hr h=>?_)
 ·obtain⟨a,ms,rfl,_⟩:=h
  rfl
 ·obtain⟨a,ms,rfl,hS,⟨hl,hx⟩,q⟩:=h
  have hs:sizeLine=16777216:=sizeLine_eq;refine⟨_,(aB (aH (i:=1) kM.nd rfl (Or.inl rfl) Aa)
   (aB (dW PassesOwn.never rfl (xJ K rfl (pv 0)) (cG (i:=2) kM.nd rfl (Or.inl rfl)) (aF (iY (Az gg jx jy jM (Dy (pv 1) (aI C_begin_of hr aO (aA (pv 2) aC)) (eA aC) ⟨rfl,rfl,rfl,rfl⟩) (aA (pv 2) aC)))))
   (aF (aV (pv 1))))),?_⟩
  (try rw[cM]);(try rw[cxK1])
  refine fun D hD=>?_
  have sD:=aL (o:=.dK []) hD;refine⟨_,rfl,a,ms.map T,_,rfl,hS,sD,fun J rd=>?_⟩;refine Jm rd (fun i σ G=>aJ H G∧∃ (kvs:List (Key×V)) (ts:List (List Nat)) (v2:Option V),G D=some (.dK kvs)∧bG G (Dt.og (ms.take i)) ts kvs∧ts.Nodup∧(kvs.map (·.2)).Nodup∧(∀ b,V.ref b∈kvs.map (·.2)->H b=none)∧ts.length<=i∧(∀ t,t∈ts↔∃ x∈ms.take i,beg x=t)∧σ=[some (.ref a),some (.ref D),v2])
   ⟨sD,[],[],none,aE,.nil,gu,gu,fun b h=>(nomatch h),af _,fun t=>⟨fun h=>(nomatch h),fun ⟨x,h,_⟩=>by rw[jg] at h;cases h⟩,rfl⟩ (fun i σ G _ h=>h.1) ?_ ?_
  ·rintro i y σ G hi ⟨sG,kvs,ts,v2,hd,hwa,nd,nv,hf,hlt,hm,rfl⟩
   obtain⟨x,hxi,rfl⟩:∃ x,ms[i]?=some x∧T x=y:=by rw[al] at hi;exact bi.mp hi
   have hil:=(ag.mp hxi).1;have hxx:=hx x (ay hxi);have htk:ms.take (i+1)=ms.take i++[x]:=by rw[cn,hxi];rfl
   have hm2:∀ t,(∃ y∈ms.take (i+1),beg y=t)↔(∃ y∈ms.take i,beg y=t)∨t=beg x:=fun t=>by
    rw[htk];constructor
    ·rintro⟨y,h1,h2⟩
     rcases bj.mp h1 with z | z
     ·exact .inl ⟨y,z,h2⟩
     ·rw[az.mp z] at h2
      exact .inr h2.symm
    ·rintro (⟨y,h1,h2⟩ | h)
     ·exact⟨y,gc _ h1,h2⟩
     ·exact⟨x,bu _ (az.mpr rfl),h.symm⟩
   have hgl:∀ t,(Dt.og (ms.take i) t).length<=1000:=fun t=>a5 (db ..) (by rw[cb];omega)
   refine⟨_,rfl,D,rfl,⟨_,hd⟩,_,rfl,x,rfl,⟨hxx.1,hxx.2⟩,(by show 0<=sizeLine;omega),fun e he=>?_⟩;have s1:=aL (o:=.lst []) he;have h1:upd G e (.lst []) e=some (.lst []):=aE;have heH:H e=none:=iW sG he;have heD:e≠D:=fun z=>by rw[z,hd] at he;cases he
   have hd1:=s1 D _ hd;have hwa1:=hwa.mono s1;have sG1:=sG.trans s1;have hev:V.ref e∉kvs.map (·.2):=fun z=>by
    have key:∀ {ts:List (List Nat)} {kvs:List (Key×V)},bG G (Dt.og (ms.take i)) ts kvs->V.ref e∉kvs.map (·.2):=fun {ts kvs} h=>by
     induction h with
     | nil=>intro z;cases z
     | @cons o a' _ _ e1 _ ih =>
      intro z;rcases aw.mp z with z | z
      ·cases z;rw[he] at e1;cases e1
      ·exact ih z
    exact key hwa z
   generalize upd G e (.lst [])=G1 at s1 h1 hd1 hwa1 sG1;refine⟨kvs,ca (tx (beg x)),hd1,rfl,by rw[hwa.len];omega,fun v hv=>?_,fun hn=>?_⟩
   ·have hol:beg x∈ts:=Decidable.byContradiction fun z=>by rw[vV hwa z] at hv;cases hv
    obtain⟨b,hb1,hb2⟩:=hwa1.get hol;obtain rfl:v = .ref b:=by rw[hb1] at hv;exact (ba hv).symm
    have hbH:=hf b (by
     have vm:∀ {kvs:List (Key×V)} {k:Key} {v:V},eO kvs k=some v->v∈kvs.map (·.2):=fun {kvs k v}=>by
      induction kvs with
      | nil=>intro e;cases e
      | cons kv kvs ih =>
       intro e;obtain⟨k',v'⟩:=kv;by_cases hk:k'=k
       ·rw[gS hk] at e;cases e;exact ar ..
       ·rw[fY hk] at e;exact ah _ (ih e)
     exact vm hv)
    have hbD:b≠D:=fun z=>by rw[z,hd1] at hb2;cases hb2
    refine⟨.inl ⟨rfl,_,SqL.of hb2⟩,_,rfl,b,_,_,rfl,rfl,hb2,(by rw[aR];have:=hgl (beg x);omega),?_⟩;have hw2:=hwa1.app (x:=x) nd nv hol hb1;refine⟨fun b' o e'=>by rw[aK (fun z=>by rw[z,hbH] at e';cases e')];exact sG1 b' o e',kvs,ts,_,by rw[aK hbD.symm];exact hd1,?_,nd,nv,hf,by omega,fun t=>?_,rfl⟩
    ·rw[bn] at hw2
     refine hw2.cong fun t _=>?_
     rw[htk,Hm];by_cases z:t=beg x
     ·rw[if_pos z,if_pos z,z]
     ·rw[if_neg z,if_neg z]
    ·rw[hm2,hm]
     exact⟨.inl,fun h=>h.elim id fun z=>z▸(hm _).mp hol⟩
   ·have hol:beg x∉ts:=fun z=>by obtain⟨a,h1,_⟩:=hwa1.get z;rw[h1] at hn;cases hn
    have hep:upd G1 D (.dK (fT kvs (ca (tx (beg x))) (.ref e))) e=some (.lst []):=by rw[aK heD];exact h1
    refine⟨.inl ⟨rfl,_,SqL.of hep⟩,_,rfl,e,_,_,rfl,rfl,hep,(by show 0<sizeLine;omega),?_⟩;have hpk:fT kvs (ca (tx (beg x))) (.ref e)=kvs++[(ca (tx (beg x)),.ref e)]:=by
     unfold fT;rw[if_neg];intro z;obtain⟨kv,z1,z2⟩:=nc.mp z;have h3:kv.1∈kvs.map (·.1):=gm z1;rw[hwa.keys,of_decide_eq_true z2] at h3;obtain⟨t,h4,h5⟩:=au.mp h3;exact hol (fZ (g0 h5)▸h4)
    have og0:Dt.og (ms.take i) (beg x)=[]:=gn.mpr fun u hu z=>hol ((hm _).mpr ⟨u,hu,of_decide_eq_true z⟩)
    have hne:∀ b' o,H b'=some o->b'≠e∧b'≠D:=fun b' o e'=>⟨fun z=>(by rw[z,heH] at e';cases e'),fun z=>(by rw[z,hD] at e';cases e')⟩
    refine⟨fun b' o e'=>by rw[aK (hne b' o e').1,aK (hne b' o e').2];exact sG1 b' o e',_,ts++[beg x],_,by rw[aK heD.symm];exact aE,?_,?_,?_,?_,by rw[aq];show _+1<=_;omega,fun t=>?_,rfl⟩
    ·have hw2:bG (upd (upd G1 D (.dK (fT kvs (ca (tx (beg x))) (.ref e)))) e (.lst ([]++[T x]))) (fun t=>if t=beg x then [x] else Dt.og (ms.take i) t) ts kvs:=by
      have hw3:=hwa1.updD (o:=.dK (fT kvs (ca (tx (beg x))) (.ref e))) hd1;have key:∀ {G':Hp} {ts:List (List Nat)} {kvs:List (Key×V)},bG G' (Dt.og (ms.take i)) ts kvs->V.ref e∉kvs.map (·.2)->beg x∉ts->bG (upd G' e (.lst ([]++[T x]))) (fun t=>if t=beg x then [x] else Dt.og (ms.take i) t) ts kvs:=fun {G' ts kvs} h=>by
       induction h with
       | nil=>intro _ _;exact .nil
       | @cons o a' _ _ e1 _ ih =>
        intro z1 z2;have n1:a'≠e:=fun z=>z1 (z▸ar ..)
        have n2:o≠beg x:=fun z=>z2 (z▸ar ..)
        exact .cons (by rw[aK n1,if_neg n2];exact e1) (ih (fun z=>z1 (ah _ z)) fun z=>z2 (ah _ z))
      exact key hw3 hev hol
     rw[hpk];rw[hpk] at hw2;refine (hw2.snoc (a:=e) (by rw[aE,if_pos rfl];rfl)).cong fun t _=>?_
     rw[htk,Hm];by_cases z:t=beg x
     ·rw[if_pos z,if_pos z,z,og0];rfl
     ·rw[if_neg z,if_neg z]
    ·exact dw.mpr ⟨nd,by simp,fun a' ha c hc z=>hol (by rw[<- az.mp hc,<- z];exact ha)⟩
    ·rw[hpk,bn]
     exact dw.mpr ⟨nv,by simp,fun a' ha c hc z=>hev (by have hc:c=V.ref e:=az.mp hc;rw[<- hc,<- z];exact ha)⟩
    ·intro b hb
     rw[hpk,bn] at hb;rcases bj.mp hb with z | z
     ·exact hf b z
     ·have z:V.ref b=V.ref e:=az.mp z
      cases z;exact heH
    ·rw[hm2,bj,hm,az]
  ·rintro σ G ⟨sG,kvs,ts,v2,hd,hwa,nd,nv,hf,hlt,hm,rfl⟩
   rw[aR,da] at hwa;rw[aR,da] at hm;exact⟨_,rfl,q D kvs ts G hD sG hd hwa nd hm⟩
def Es:Sp:=fun vs H Q _=>∃ (k:Nat),vs=[.int (k:Nat)]∧k<=1000∧Q (.int (Dt.fct k:Nat)) H
theorem oM {f:Addr}{fd:FuncData}(F:Fun K "product_up_to" "product_up_to" cY f fd)(tt:Txt K mg ad):bQ P w K mg base (CX1 P w) 1 f fd ["many"] Es:=by
 refine F.okN fC (fun vs H Q E h=>?_) (fun cdv A outer s H vs Q E hr h=>?_)
 ·obtain⟨k,rfl,_⟩:=h
  rfl
 ·obtain⟨k,rfl,hk,q⟩:=h
  refine⟨_,(aB (aH (i:=1) fC.nd rfl (Or.inl rfl) aG)
   (aB (dW PassesOwn.never rfl (Kj (by rfl) tt.b_range (aA aG (aA (aU eB (pv 0) aG) aC))) (cG (i:=2) fC.nd rfl (Or.inl rfl)) (aF (aH (i:=1) fC.nd rfl (Or.inl rfl) (aU xT (pv 1) (pv 2)))))
   (aF (aV (pv 1))))),?_⟩
  (try rw[cM]);(try rw[cxK1])
  refine⟨_,rfl,_,_,rfl,rfl,_,_,rfl,⟨by decide,by decide,by omega,by omega⟩,?_⟩;rw[show (((k:Nat):Int)+1-1).toNat=k by omega];refine pQ (fun j σ G=>G=H∧∃ v2:Option V,σ=[some (.int (k:Nat)),some (.int (Dt.fct j:Nat)),v2]) ⟨rfl,none,rfl⟩ ?_ ?_
  ·rintro j σ G hj ⟨rfl,v2,rfl⟩
   refine⟨_,rfl,_,rfl,_,_,rfl,rfl,.inr ⟨by omega,by omega⟩,rfl,some (.int (1+(j:Int))),?_⟩;show [_,some (V.int (((Dt.fct j:Nat):Int)*(1+(j:Int)))),_]=[_,some (V.int (((j+1)*Dt.fct j:Nat):Int)),_];rw[show (((j+1)*Dt.fct j:Nat):Int)=((Dt.fct j:Nat):Int)*(1+(j:Int)) by rw[eg,fz,gi,Int.add_comm];rfl]
  ·rintro σ G ⟨rfl,v2,rfl⟩
   exact⟨_,rfl,q⟩
theorem bG.drop {H:Hp}{g:List Nat->List (List Nat)}{ts:List (List Nat)}{kvs:List (Key×V)}{o:List Nat}(h:bG H g ts kvs):bG H g (ts.filter fun t=>decide (t≠o)) (uG kvs (ca (tx o))):=by
 unfold uG
 induction h with
 | nil=>exact .nil
 | @cons o' a _ _ e _ ih =>
  by_cases z:o'=o
  ·subst z
   rw[di (by simp),di (by simp)];exact ih
  ·rw[dq (by simp[z]),dq (by
    have:(ca (tx o'):Key)≠ca (tx o):=fun y=>z (fZ (g0 y))
    simp[this])]
   exact .cons e ih
theorem Lg {n:Nat}(h:n<=64 ^ 200):Bg ((n:Nat):Int):=by
 show ((n:Nat):Int).natAbs<2 ^ 8000;rw[d0];exact fb h (by
  rw[show (64:Nat)=2 ^ 6 from rfl,<- jh];exact lg (by decide) (by decide))
def iM (K:ae):Sp:=fun vs H Q _=>∃ (a:Addr) (ms:List (List Nat)) (one other:List Nat),vs=[.ref a,T one,T other]∧SqA K H a (ms.map T)∧(ms.Nodup∧ms.length<=60∧∀ x∈ms,1<=x.length∧x.length<=1000)∧∀ (H':Hp),aJ H H'->Q (.int (Dt.eN ms one other:Nat)) H'
theorem Fb {f:Addr}{fd:FuncData}(F:Fun K "ways_on" "ways_on" iG f fd)(tt:Txt K mg ad)(C_is_even:Cal P w K mg base (CX1 P w) "is_even" 2 ["words", "one", "other"] (Dr K))(C_by_begin:Cal P w K mg base (CX1 P w) "by_begin" 2 ["words"] (zW K))(C_product_up_to:Cal P w K mg base (CX1 P w) "product_up_to" 1 ["many"] Es)(C_choices_counted:Cal P w K mg base (CX1 P w) "choices_counted" 4 ["ways"] (pR K)) :
  bQ P w K mg base (CX1 P w) 5 f fd ["words", "one", "other"] (iM K):=by
 refine F.okN iL (fun vs H Q E h=>?_) (fun cdv A outer s H vs Q E hr h=>?_)
 ·obtain⟨a,ms,one,other,rfl,_⟩:=h
  rfl
 ·obtain⟨a,ms,one,other,rfl,hS,⟨hnd,hl,hx⟩,q⟩:=h
  have hs:sizeLine=16777216:=sizeLine_eq;refine⟨_,(aB (bW (mH (kW (aI C_is_even hr aO (aA (pv 0) (aA (pv 1) (aA (pv 2) aC)))))) (aF (aV aG)) bA)
   (aB (aH (i:=3) iL.nd rfl (Or.inl rfl) (aI C_by_begin hr aO (aA (pv 0) aC)))
   (aB (Kn (t':=(fun D σ H=>∃ (a d:Addr) (one other:List Nat) (ms ts:List (List Nat)) (kvs:List (Key×V)),σ=[some (.ref a),some (T one),some (T other),some (.ref d),none,none]∧H d=some (.dK kvs)∧bG H (Dt.og ms) ts kvs∧(∀ t,t∈ts↔∃ x∈ms,beg x=t)∧ms.length<=60∧∀ (H3:Hp) (k3:List (Key×V)),(∀ b o,b≠d->H b=some o->H3 b=some o)->H3 d=some (.dK k3)->bG H3 (Dt.og ms) (ts.filter fun t=>decide (t≠other)) k3->D.nx [some (.ref a),some (T one),some (T other),some (.ref d),some (.int (Dt.fct (Wd.cnt Wd.beg ms other):Nat)),none] H3)) (aH (i:=4) iL.nd rfl (Or.inl rfl) (aI C_product_up_to hr aO (aA (aN aX (by rfl) tt.b_len bh (aA (Kl (pv 3) (pv 2) (eA aC) ⟨rfl,rfl,rfl,rfl⟩) aC)) aC))) ?rA)
   (aB (dW PassesOwn.never rfl (yK (pv 3)) (cG (i:=5) iL.nd rfl (Or.inl rfl)) (aF (aH (i:=4) iL.nd rfl (Or.inl rfl) (aU fA (pv 4) (aI C_product_up_to hr aO (aA (aU eK (aN aX (by rfl) tt.b_len bh (aA (jY (fV hr) (pv 3) (pv 5) (fun _ _=>rfl)) aC)) aG) aC))))))
   (aF (aV (aU fA (Qx (pv 4)) (aI C_choices_counted hr aO (aA (pv 3) aC))))))))),?_⟩
  (try rw[cM]);(try rw[cxK1])
  case rA =>
   rintro D0 σ G ⟨a,d,one,other,ms,ts,kvs,rfl,hd,hwa,hm,hl,nxt⟩;have hgl:(Dt.og ms other).length<=60:=a5 (db ..) hl;refine⟨_,rfl,d,rfl,.inl ⟨_,.inl hd⟩,_,rfl,(by show 0<=sizeLine;omega),fun e he=>?_⟩;have s1:=aL (o:=.lst []) he;have h1:upd G e (.lst []) e=some (.lst []):=aE;have hed:e≠d:=fun z=>by rw[z,hd] at he;cases he
   generalize upd G e (.lst [])=G1 at s1 h1;have hwd:=(hwa.mono s1).drop (o:=other);refine⟨kvs,ca (tx other),s1 d _ hd,rfl,fun v hv=>?_,fun hn=>?_⟩
   ·have hol:other∈ts:=Decidable.byContradiction fun z=>by rw[vV hwa z] at hv;cases hv
    obtain⟨b,hb1,hb2⟩:=(hwa.mono s1).get hol;obtain rfl:v = .ref b:=by rw[hb1] at hv;exact (ba hv).symm
    have hbd:b≠d:=fun z=>by rw[z,s1 d _ hd] at hb2;cases hb2
    refine⟨b,_,rfl,.inl (SqL.of (by rw[aK hbd];exact hb2)),(Dt.og ms other).length,congrArg (fun z=>[V.int z]) (by rw[aR]),by omega,?_⟩;exact nxt _ _ (fun b' o hb' e'=>by rw[aK hb'];exact s1 b' o e') aE (hwd.updD (s1 d _ hd))
   ·have hol:other∉ts:=fun z=>by obtain⟨b,h1,_⟩:=hwa.get z;rw[h1] at hn;cases hn
    have e0:Dt.og ms other=[]:=gn.mpr fun u hu z=>hol ((hm _).mpr ⟨u,hu,of_decide_eq_true z⟩)
    have e1:Wd.cnt Wd.beg ms other=0:=congrArg fo e0;refine⟨e,_,rfl,.inl (SqL.of h1),0,rfl,by omega,?_⟩;rw[e1] at nxt;have ef:ts.filter (fun t=>decide (t≠other))=ts:=lr.mpr fun t ht=>decide_eq_true fun z=>hol (z▸ht)
    exact nxt G1 kvs (fun b' o _ e'=>s1 b' o e') (s1 d _ hd) (by rw[ef];exact hwa.mono s1)
  refine⟨_,rfl,_,rfl,_,rfl,a,ms,one,other,rfl,hS,⟨hl,hx⟩,fun b H1 s1 hb=>⟨_,rfl,?_⟩⟩;by_cases hbal:Wd.Bal ms one other
  ·obtain rfl:=hb.mpr hbal
   refine oF ?_;refine⟨_,rfl,a,ms,rfl,hS.on s1,⟨by omega,hx⟩,fun D kvs ts H2 hD s2 hd hwa nd hm=>?_⟩;have hDH:H D=none:=iW s1 hD;have hgl:∀ t,(Dt.og ms t).length<=60:=fun t=>a5 (db ..) hl
   have htl:ts.length<=60:=by
    have z:ts.length<=(ms.map beg).length:=nd.length_le_of_subset fun z hz=>by
     obtain⟨w,hw,h⟩:=(hm z).mp hz;exact h▸gm hw
    rw[aR] at z;omega
   refine⟨a,D,one,other,ms,ts,kvs,rfl,hd,hwa,hm,hl,fun H3 k3 k23 hd3 hwa3=>?_⟩;have s3:aJ H H3:=fun b o e=>k23 b o (aM e hDH) (s2 b o (s1 b o e))
   obtain⟨us,hus⟩:∃ us,us=ts.filter fun t=>decide (t≠other):=⟨_,rfl⟩
   rw[<- hus] at hwa3;have ndu:us.Nodup:=hus▸nd.sublist jr;have hul:us.length<=60:=a5 (hus▸db ..) htl;have hum:∀ t,t∈us↔t≠other∧∃ x∈ms,beg x=t:=fun t=>by rw[hus,d8,hm,decide_eq_true_iff];exact⟨fun h=>⟨h.2,h.1⟩,fun h=>⟨h.2,h.1⟩⟩
   have hcb:Dt.fct (Wd.cnt Wd.beg ms other)<=64 ^ 60:=a5 (Dt.yA (a5 (hgl other) (by decide))) (dl (by decide) (hgl other));have hpb:∀ l:List (List Nat),l.Nodup->Dt.pF (Wd.cnt Wd.beg ms) l<=64 ^ 60:=fun l hl'=>a5 (Dt.Rh fun t _=>a5 (hgl t) (by decide)) (dl (by decide) (a5 (Dt.xK hl') hl))
   have hob:∀ l:List (List Nat),l.Nodup->Bg ((Dt.fct (Wd.cnt Wd.beg ms other)*Dt.pF (Wd.cnt Wd.beg ms) l:Nat):Int):=fun l hl'=>Lg (a5 (fj hcb (hpb l hl')) (by rw[<- ip];exact dl (by decide) (by decide)))
   have hklen:=hwa3.len;refine⟨_,rfl,D,k3,rfl,hd3,fun o=>?_⟩;have hfr:upd H3 D (.frz o (.dK k3)) D=some (.frz o (.dK k3)):=aE;have hwf:bG (upd H3 D (.frz o (.dK k3))) (Dt.og ms) us k3:=hwa3.updD hd3;refine Bu (fun i σ G=>G=upd H3 D (.frz o (.dK k3))∧∃ v5:Option V,σ=[some (.ref a),some (T one),some (T other),some (.ref D),some (.int (Dt.fct (Wd.cnt Wd.beg ms other)*Dt.pF (Wd.cnt Wd.beg ms) (us.take i):Nat)),v5]) ⟨rfl,none,by rw[jg];show _=[_,_,_,_,some (V.int ((Dt.fct (Wd.cnt Wd.beg ms other)*1:Nat):Int)),_];rw[o8]⟩ (fun i σ G _ h=>by rw[h.1];exact hfr) ?_ ?_
   ·rintro i kv σ G hi ⟨rfl,v5,rfl⟩
    have hik:(k3.map (·.1))[i]?=some kv.1:=by rw[al,hi];rfl
    rw[hwa3.keys,al] at hik;obtain⟨t,hti,hkt⟩:=bi.mp hik;rw[show kV kv.1=T t by rw[<- hkt];rfl];have htk:us.take (i+1)=us.take i++[t]:=by rw[cn,hti];rfl
    have htu:=ay hti;obtain⟨b,hb1,hb2⟩:=hwf.get htu;have hpos:0<(Dt.og ms t).length:=by
     obtain⟨_,x,h1,h2⟩:=(hum t).mp htu;exact ei (Dt.bZ.mpr ⟨h1,h2⟩)
    have hgt:=hgl t;refine⟨_,rfl,_,rfl,_,rfl,D,_,rfl,.inl ⟨k3,ca (tx t),.inr ⟨o,hfr⟩,rfl,hb1.symm⟩,b,_,rfl,.inl (SqL.of hb2),_,_,rfl,rfl,(Dt.og ms t).length-1,congrArg (fun z=>[V.int z]) (by rw[aR];omega),by omega,_,_,rfl,rfl,⟨hob _ (ndu.sublist (i9 i us)),Lg (a5 (Dt.yA (by omega)) (dl (by decide) (by omega)))⟩,?_⟩;refine⟨rfl,some (T t),?_⟩;rw[htk,Dt.Fr,<- dt,eg];rfl
   ·rintro σ G ⟨rfl,v5,rfl⟩
    rw[hklen,da];refine⟨_,rfl,D,o,k3,hfr,hDH,?_⟩;have back:upd (upd H3 D (.frz o (.dK k3))) D (.dK k3)=H3:=by
     rw[He]
     funext b
     by_cases hb:b=D
     ·subst hb
      rw[aE,hd3]
     ·rw[aK hb]
    rw[back];obtain⟨hsq,hpl⟩:=My (ls:=us) (g:=Dt.og ms) (by omega) fun t _=>a5 (hgl t) (by decide)
    refine⟨_,rfl,D,us,k3,Dt.og ms,rfl,hd3,hwa3,⟨by omega,fun t _=>⟨a5 (hgl t) (by decide),fun y hy=>hx y (d8.mp hy).1⟩⟩,hsq,hpl,fun H4 s4=>?_⟩;rw[Ue ndu];have hcn:Dt.nC us (Dt.og ms)<=64 ^ 60:=a5 Dt.Vq (a5 (dl (by decide) (a5 (Dt.xK ndu) hl)) (Nat.pow_le_pow_left (by decide) 60));refine⟨_,_,rfl,rfl,⟨hob us ndu,Lg (a5 hcn (dl (by decide) (by decide)))⟩,?_⟩;have e:=Dt.Pp ms.length rfl hnd hbal (ts:=us) ⟨ndu,hum⟩;have z:=q H4 (s3.trans s4);rw[e] at z;unfold Dt.bst at z;rw[eg] at z;exact z
  ·cases b with
   | true=>exact absurd (hb.mp rfl) hbal
   | false =>
    refine rW ?_
    have:=q H1 s1
    rw[Dt.oK hnd hbal] at this;exact this
def lI (K:ae):Sp:=fun vs H Q _=>∃ (a:Addr) (ls:List (List Nat)) (w:List Nat),vs=[.ref a,T w]∧SqL K H a (ls.map T)∧ls.length<=1000∧∀ (D:Addr) (H':Hp),H D=none->aJ H H'->H' D=some (.lst ((Dt.rm ls w).map T))->Q (.ref D) H'
theorem Er {f:Addr}{fd:FuncData}(F:Fun K "without" "without" gI f fd)(tt:Txt K mg ad):bQ P w K mg base (CX1 P w) 1 f fd ["words", "word"] (lI K):=by
 refine F.okN Fi (fun vs H Q E h=>?_) (fun cdv A outer s H vs Q E hr h=>?_)
 ·obtain⟨a,ls,wd,rfl,_⟩:=h
  rfl
 ·obtain⟨a,ls,wd,rfl,hS,hl,q⟩:=h
  have hs:sizeLine=16777216:=sizeLine_eq;refine⟨_,(aF (aV (tQ xU rfl (cF (pv 0)) (fun cl C s' H' fp=>(aW Fx (pv 0) (pv 2) (aY _))) (fun cl C s' H' fp=>(pv 0))))),?_⟩
  (try rw[cM]);(try rw[cxK1])
  refine⟨_,rfl,a,rfl,⟨_,hS⟩,?_⟩;refine kZ (fun v=>!decide (unT v=wd)) (fun v=>v) (cI hS) (by rw[aR];omega) (fun v G5 hv s5 N hN=>?_) (fun v G5 hv hp s5 N hN=>?_) fun D5 G5 hD5 s5 hd5=>?_
  ·obtain⟨l,hl,rfl⟩:=au.mp hv
   have z:=hN G5 (aJ.refl _);rw[dS] at z;exact⟨_,rfl,_,rfl,_,rfl,_,rfl,_,rfl,z⟩
  ·exact⟨_,rfl,hN G5 (aJ.refl _)⟩
  ·refine q D5 G5 hD5 s5 ?_
   rw[hd5,show (ls.map T).filter (fun v=>!decide (unT v=wd))=(ls.filter fun o=>!decide (o=wd)).map T from dX (p:=fun o=>!decide (o=wd)) ls,t9];rfl
theorem Hf {w:List Nat}(h:1<=w.length):atI w (-1)=some (Wd.dQ w):=by
 show (ixN w.length (-1)).bind _=_;unfold ixN;rw[if_neg (by decide),if_pos (by omega),show ((-1:Int)+((w.length:Nat):Int)).toNat=w.length-1 by omega];show w[w.length-1]?=_;unfold Wd.dQ;rw[aj,aa (by omega)];rfl
def yB (K:ae):Sp:=fun vs H Q _=>∃ (a:Addr) (ms us:List (List Nat)) (one other:List Nat) (k:Nat),vs=[.ref a,T one,T other,.int (k:Nat)]∧SqA K H a (ms.map T)∧(ms.Nodup∧ms.length<=60∧one.length<=1000∧∀ x∈ms,1<=x.length∧x.length<=1000)∧(Dt.gM ms.length ms one other)[k]?=some us∧∀ (H':Hp),aJ H H'->Q (T (one++us.map Wd.dQ)) H'
theorem Ig {f:Addr}{fd:FuncData}(F:Fun K "way_by" "way_by" jS f fd)(tt:Txt K mg ad)(C_by_begin:Cal P w K mg base (CX1 P w) "by_begin" 2 ["words"] (zW K))(C_ways_on:Cal P w K mg base (CX1 P w) "ways_on" 5 ["words", "one", "other"] (iM K))(C_without:Cal P w K mg base (CX1 P w) "without" 1 ["words", "word"] (lI K))(C_end_of:Cal P w K mg base (CX1 P w) "end_of" 1 ["word"] lZ) :
  bQ P w K mg base (CX1 P w) 6 f fd ["words", "one", "other", "number"] (yB K):=by
 refine F.okN dO (fun vs H Q E h=>?_) (fun cdv A outer s H vs Q E hr h=>?_)
 ·obtain⟨a,ms,us,one,other,k,rfl,_⟩:=h
  rfl
 ·obtain⟨a,ms,us,one,other,k,rfl,hS,⟨hnd,hl,hol,hx⟩,hus,q⟩:=h
  have hs:sizeLine=16777216:=sizeLine_eq;have hu:=h9 (fV hr);have husl:us.length=ms.length:=(Dt.Dp hnd hus).1.length_eq;refine⟨_,(aB (aH (i:=4) dO.nd rfl (Or.inl rfl) (pv 1))
   (aB (aH (i:=5) dO.nd rfl (Or.inl rfl) (pv 1))
   (aB (aH (i:=6) dO.nd rfl (Or.inl rfl) (cW hX (by rfl) tt.b_list (by decide +kernel) (aA (pv 0) aC)))
   (aB (aH (i:=7) dO.nd rfl (Or.inl rfl) (pv 3))
   (aB (jH PassesOwn.never (aW (At K rfl hu) (pv 6) (eA aC) (aY _)) (aB (dW PassesOwn.never rfl (cF (jY (fV hr) (aI C_by_begin hr aO (aA (pv 6) aC)) (pv 5) (fun _ _=>rfl))) (cG (i:=8) dO.nd rfl (Or.inl rfl)) (aB (aH (i:=9) dO.nd rfl (Or.inl rfl) (aI C_ways_on hr aO (aA (aI C_without hr aO (aA (pv 6) (aA (pv 8) aC))) (aA (aI C_end_of hr aO (aA (pv 8) aC)) (aA (pv 2) aC)))))
   (aB (bW (aW lU (pv 7) (pv 9) (aY _)) (aF uC) bA)
   (aF (aH (i:=7) dO.nd rfl (Or.inl rfl) (aU eK (pv 7) (pv 9)))))))
   (aB (aH (i:=4) dO.nd rfl (Or.inl rfl) (aU iP (pv 4) (cU Qd (pv 8) (nQ kD aG) (fun _ _=>rfl))))
   (aB (aH (i:=5) dO.nd rfl (Or.inl rfl) (aI C_end_of hr aO (aA (pv 8) aC)))
   (aF (aH (i:=6) dO.nd rfl (Or.inl rfl) (aI C_without hr aO (aA (pv 6) (aA (pv 8) aC)))))))))
   (aF (aV (pv 4)))))))),?_⟩
  (try rw[cM]);(try rw[cxK1])
  refine⟨_,rfl,?_⟩;refine⟨_,rfl,?_⟩;refine⟨_,rfl,a,_,rfl,hS,fun L0 hL0=>?_⟩;have t0:=aL (o:=.lst (ms.map T)) hL0;refine⟨_,rfl,?_⟩;refine⟨fun m σ G=>∃ (Lf:Addr) (lf gs rs:List (List Nat)) (at':List Nat) (j:Nat) (v8 v9:Option V),m=lf.length∧aJ H G∧G Lf=some (.lst (lf.map T))∧(∀ y∈lf,y∈ms)∧lf.length<=60∧lf.Nodup∧(Dt.gM lf.length lf at' other)[j]?=some rs∧gs++rs=us∧σ=[some (.ref a),some (T one),some (T other),some (.int (k:Nat)),some (T (one++gs.map Wd.dQ)),some (T at'),some (.ref Lf),some (.int (j:Nat)),v8,v9],
   ⟨_,L0,ms,[],us,one,k,none,none,rfl,t0,aE,fun y hy=>hy,hl,hnd,hus,rfl,by rw[g7,dv];rfl⟩,?_⟩
  rintro m σ G ⟨Lf,lf,gs,rs,at',j,v8,v9,hm,sG,hL,hsub,hll,hlnd,hrs,hgr,rfl⟩;refine⟨_,rfl,(by show 0<=sizeLine;omega),fun E0 hE0=>?_⟩;have tE:=aL (o:=.lst []) hE0;refine⟨Lf,E0,_,rfl,rfl,SqL.of (tE Lf _ hL),SqL.of aE,_,rfl,?_⟩;by_cases hle:lf=[]
  ·subst hle
   refine oF ?_;refine⟨_,rfl,?_⟩;have h1:rs=[]:=by
    have:=(Dt.Dp hlnd hrs).1
    exact mw.mp this
   rw[h1,dv] at hgr;rw[hgr];exact q _ (sG.trans tE)
  ·refine itP (by cases lf with | nil=>exact absurd rfl hle | cons y r=>rfl) ?_
   refine⟨_,fun σ' H' z=>z,?_⟩;obtain⟨n,hn⟩:∃ n,lf.length=n+1:=⟨lf.length-1,by have:=cj.mpr hle;omega⟩;have hlx:∀ y∈lf,1<=y.length∧y.length<=1000:=fun y hy=>hx y (hsub y hy)
   have hgl:gs.length<=60:=by
    have:=congrArg fo hgr
    rw[aq] at this;omega
   refine⟨_,rfl,Lf,lf,rfl,.inl (SqL.of (tE Lf _ hL)),⟨by omega,hlx⟩,fun D kvs ts G1 hD s1 hd hwa nd hmt=>?_⟩;have hat:at'∈ts:=by
    obtain⟨h1,h2⟩:=Dt.Dp hlnd hrs
    cases rs with
    | nil=>have:=h1.length_eq;rw[hn] at this;cases this
    | cons w r=>exact (hmt _).mpr ⟨w,h1.mem_iff.mp (ar ..),h2.1⟩
   obtain⟨b,hb1,hb2⟩:=hwa.get hat;have sG1:=sG.trans (tE.trans s1);have hL1:=s1 Lf _ (tE Lf _ hL);refine⟨_,rfl,D,_,rfl,(by have z:=nL.k (k:=ca (tx at')) hd;rw[hb1] at z;exact z),b,rfl,⟨_,SqL.of hb2⟩,?_⟩;refine fH (K:=K) (a:=b) (xs:=(Dt.og lf at').map T) (fun i σ G'=>aJ G1 G'∧∃ (j':Nat) (v8 v9:Option V),(((Dt.og lf at').drop i).flatMap fun w=>(Dt.gM n (Dt.rm lf w) (Wd.fin w) other).map fun us=>w::us)[j']?=some rs∧σ=[some (.ref a),some (T one),some (T other),some (.int (k:Nat)),some (T (one++gs.map Wd.dQ)),some (T at'),some (.ref Lf),some (.int (j':Nat)),v8,v9])
    ⟨aJ.refl _,j,v8,v9,by rw[fk];rw[hn] at hrs;exact hrs,rfl⟩ (fun i σ G' _ h=>SqL.of (h.1 b _ hb2)) ?_ ?_
   ·rintro i y σ G' hi ⟨sG',j',v8,v9,hj',rfl⟩
    obtain⟨wd,hwi,rfl⟩:∃ wd,(Dt.og lf at')[i]?=some wd∧T wd=y:=by rw[al] at hi;exact bi.mp hi
    obtain⟨hwl,hwb⟩:=Dt.bZ.mp (ay hwi);have hwx:=hlx wd hwl;have hrl:(Dt.rm lf wd).length=n:=by have:=Dt.gH hlnd hwl;omega
    have hdr:(Dt.og lf at').drop i=wd::(Dt.og lf at').drop (i+1):=by
     obtain⟨hi1,hi2⟩:=ag.mp hwi;rw[ft hi1,hi2]
    rw[hdr,Dt.xX] at hj';have hel:((Dt.gM n (Dt.rm lf wd) (Wd.fin wd) other).map fun us=>wd::us).length=Dt.eN (Dt.rm lf wd) (Wd.fin wd) other:=by rw[aR];unfold Dt.eN;rw[hrl]
    rw[hel] at hj';refine⟨_,rfl,_,rfl,Lf,lf,wd,rfl,SqL.of (sG' Lf _ hL1),by omega,fun D2 G2 hD2 s2 hd2=>?_⟩;refine⟨_,rfl,wd,rfl,⟨hwx.1,hwx.2⟩,_,rfl,D2,Dt.rm lf wd,Wd.fin wd,other,rfl,.inl (SqL.of hd2),⟨Dt.gF hlnd,by omega,fun y hy=>hlx y (Dt.gB.mp hy).1⟩,fun G3 s3=>?_⟩;have t3:=s2.trans s3;refine⟨_,rfl,_,rfl,_,_,rfl,rfl,_,rfl,?_⟩;by_cases hlt:j'<Dt.eN (Dt.rm lf wd) (Wd.fin wd) other
    ·refine itP (decide_eq_true (by omega)) ?_
     rw[if_pos hlt,al] at hj';obtain⟨rs',hrs',hrr⟩:=bi.mp hj';have hL3:=t3 Lf _ (sG' Lf _ hL1);refine⟨_,rfl,_,rfl,_,rfl,_,rfl,_,rfl,(by omega),_,Hf (by omega),_,rfl,_,rfl,(by rw[aq,aR];show _+_+1<=sizeLine;omega),?_⟩;refine⟨_,rfl,wd,rfl,⟨by omega,by omega⟩,?_⟩;refine⟨_,rfl,_,rfl,Lf,lf,wd,rfl,SqL.of hL3,by omega,fun D4 G4 hD4 s4 hd4=>?_⟩;refine⟨(Dt.rm lf wd).length,by omega,D4,Dt.rm lf wd,gs++[wd],rs',Wd.fin wd,j',some (T wd),some (.int ((Dt.eN (Dt.rm lf wd) (Wd.fin wd) other:Nat):Int)),rfl,sG1.trans (sG'.trans (t3.trans s4)),hd4,fun y hy=>hsub y (Dt.gB.mp hy).1,by omega,Dt.gF hlnd,by rw[hrl];exact hrs',?_,?_⟩
     ·rw[gf]
      show gs++(wd::rs')=us;rw[hrr];exact hgr
     ·rw[bn,<- gf]
      rfl
    ·refine itN (fun z=>hlt (by have:=of_decide_eq_true z;omega)) ?_
     rw[if_neg hlt] at hj';refine⟨_,rfl,_,rfl,_,_,rfl,rfl,?_⟩;refine⟨sG'.trans t3,j'-Dt.eN (Dt.rm lf wd) (Wd.fin wd) other,some (T wd),some (.int ((Dt.eN (Dt.rm lf wd) (Wd.fin wd) other:Nat):Int)),hj',?_⟩;rw[show ((j'-Dt.eN (Dt.rm lf wd) (Wd.fin wd) other:Nat):Int)=((j':Nat):Int)-((Dt.eN (Dt.rm lf wd) (Wd.fin wd) other:Nat):Int) by omega];rfl
   ·rintro σ G' ⟨sG',j',v8,v9,hj',rfl⟩
    rw[aR,ng] at hj';cases hj'
def uB (K:ae):Sp:=fun vs H Q _=>∃ (a b:Addr) (ms us:List (List Nat)) (other:List Nat),vs=[.ref a,.ref b,T other]∧SqA K H a (ms.map T)∧SqL K H b (us.map T)∧(ms.Nodup∧ms.length<=60∧∀ x∈ms,1<=x.length∧x.length<=1000)∧us.Perm ms∧∀ (H':Hp),aJ H H'->Q (.int (Dt.rk other ms us:Nat)) H'
theorem vN {f:Addr}{fd:FuncData}(F:Fun K "way_number" "way_number" fB f fd)(tt:Txt K mg ad)(C_by_begin:Cal P w K mg base (CX1 P w) "by_begin" 2 ["words"] (zW K))(C_begin_of:Cal P w K mg base (CX1 P w) "begin_of" 1 ["word"] gQ)(C_ways_on:Cal P w K mg base (CX1 P w) "ways_on" 5 ["words", "one", "other"] (iM K))(C_without:Cal P w K mg base (CX1 P w) "without" 1 ["words", "word"] (lI K))(C_end_of:Cal P w K mg base (CX1 P w) "end_of" 1 ["word"] lZ) :
  bQ P w K mg base (CX1 P w) 6 f fd ["words", "order", "other"] (uB K):=by
 refine F.okN dE (fun vs H Q E h=>?_) (fun cdv A outer s H vs Q E hr h=>?_)
 ·obtain⟨a,b,ms,us,other,rfl,_⟩:=h
  rfl
 ·obtain⟨a,b,ms,us,other,rfl,hS,hB,⟨hnd,hl,hx⟩,hp,q⟩:=h
  have hs:sizeLine=16777216:=sizeLine_eq;have husl:us.length=ms.length:=hp.length_eq;refine⟨_,(aB (aH (i:=3) dE.nd rfl (Or.inl rfl) aG)
   (aB (aH (i:=4) dE.nd rfl (Or.inl rfl) (cW hX (by rfl) tt.b_list (by decide +kernel) (aA (pv 0) aC)))
   (aB (dW PassesOwn.never rfl (cF (pv 1)) (cG (i:=5) dE.nd rfl (Or.inl rfl)) (aB (dW PassesOwn.never rfl (cF (jY (fV hr) (aI C_by_begin hr aO (aA (pv 4) aC)) (aI C_begin_of hr aO (aA (pv 5) aC)) (fun _ _=>rfl))) (cG (i:=6) dE.nd rfl (Or.inl rfl)) (aF (bW (aW Gd (pv 6) (pv 5) (aY _)) (aF (aH (i:=3) dE.nd rfl (Or.inl rfl) (aU eB (pv 3) (aI C_ways_on hr aO (aA (aI C_without hr aO (aA (pv 4) (aA (pv 6) aC))) (aA (aI C_end_of hr aO (aA (pv 6) aC)) (aA (pv 2) aC))))))) bA)))
   (aF (aH (i:=4) dE.nd rfl (Or.inl rfl) (aI C_without hr aO (aA (pv 4) (aA (pv 5) aC)))))))
   (aF (aV (pv 3)))))),?_⟩
  (try rw[cM]);(try rw[cxK1])
  refine⟨_,rfl,a,_,rfl,hS,fun L0 hL0=>?_⟩;have t0:=aL (o:=.lst (ms.map T)) hL0;refine⟨_,rfl,b,rfl,⟨_,t0.seq hB⟩,?_⟩;refine fH (K:=K) (a:=b) (xs:=us.map T) (fun i σ G=>aJ H G∧∃ (Lf:Addr) (lf:List (List Nat)) (acc:Nat) (v5 v6:Option V),G Lf=some (.lst (lf.map T))∧lf.Nodup∧(us.drop i).Perm lf∧(∀ y∈lf,y∈ms)∧lf.length<=60∧acc+Dt.rk other lf (us.drop i)=Dt.rk other ms us∧σ=[some (.ref a),some (.ref b),some (T other),some (.int (acc:Nat)),some (.ref Lf),v5,v6])
   ⟨t0,L0,ms,0,none,none,aE,hnd,by rw[fk];exact hp,fun y hy=>hy,hl,by rw[fk,ix],rfl⟩ (fun i σ G _ h=>h.1.seq hB) ?_ ?_
  ·rintro i y σ G hi ⟨sG,Lf,lf,acc,v5,v6,hL,hlnd,hpl,hsub,hll,hacc,rfl⟩
   obtain⟨wd,hwi,rfl⟩:∃ wd,us[i]?=some wd∧T wd=y:=by rw[al] at hi;exact bi.mp hi
   have hdr:us.drop i=wd::us.drop (i+1):=by
    obtain⟨hi1,hi2⟩:=ag.mp hwi;rw[ft hi1,hi2]
   rw[hdr] at hpl hacc;have hwl:wd∈lf:=hpl.mem_iff.mp (ar ..);have hlx:∀ y∈lf,1<=y.length∧y.length<=1000:=fun y hy=>hx y (hsub y hy)
   have hwx:=hlx wd hwl;refine⟨_,rfl,Lf,lf,rfl,.inl (SqL.of hL),⟨by omega,hlx⟩,fun D kvs ts G1 hD s1 hd hwa nd hmt=>?_⟩;have hat:Wd.beg wd∈ts:=(hmt _).mpr ⟨wd,hwl,rfl⟩;obtain⟨c,hb1,hb2⟩:=hwa.get hat;have hL1:=s1 Lf _ hL;refine⟨_,rfl,wd,rfl,⟨hwx.1,hwx.2⟩,D,_,rfl,(by have z:=nL.k (k:=ca (tx (Wd.beg wd))) hd;rw[hb1] at z;exact z),c,rfl,⟨_,SqL.of hb2⟩,?_⟩;have hstep:∀ (l:List (List Nat)) (x:List Nat),((((l++[x]).filter fun x=>decide (x<wd)).map fun x=>Dt.eN (Dt.rm lf x) (Wd.fin x) other).sum:Nat)=((l.filter fun x=>decide (x<wd)).map fun x=>Dt.eN (Dt.rm lf x) (Wd.fin x) other).sum+if x<wd then Dt.eN (Dt.rm lf x) (Wd.fin x) other else 0:=fun l x=>by
    rw[fu];by_cases h:x<wd
    ·rw[if_pos h,dq (p:=fun x=>decide (x<wd)) (decide_eq_true h),lq,bn,ro]
     show _+(Dt.eN (Dt.rm lf x) (Wd.fin x) other+0)=_;omega
    ·rw[if_neg h,di (p:=fun x=>decide (x<wd)) (fun z=>h (of_decide_eq_true z)),lq,dv,ko]
   refine fH (K:=K) (a:=c) (xs:=(Dt.og lf (Wd.beg wd)).map T) (fun j σ G'=>aJ G1 G'∧∃ (v6:Option V),σ=[some (.ref a),some (.ref b),some (T other),some (.int ((acc+((((Dt.og lf (Wd.beg wd)).take j).filter fun x=>decide (x<wd)).map fun x=>Dt.eN (Dt.rm lf x) (Wd.fin x) other).sum:Nat):Int)),some (.ref Lf),some (T wd),v6])
    ⟨aJ.refl _,v6,rfl⟩ (fun j σ G' _ h=>SqL.of (h.1 c _ hb2)) ?_ ?_
   ·rintro j y σ G' hj ⟨sG',v6,rfl⟩
    obtain⟨x,hxj,rfl⟩:∃ x,(Dt.og lf (Wd.beg wd))[j]?=some x∧T x=y:=by rw[al] at hj;exact bi.mp hj
    obtain⟨hxl,hxb⟩:=Dt.bZ.mp (ay hxj);have hxx:=hlx x hxl;have htk:(Dt.og lf (Wd.beg wd)).take (j+1)=(Dt.og lf (Wd.beg wd)).take j++[x]:=by rw[cn,hxj];rfl
    refine⟨_,rfl,_,rfl,_,rfl,_,rfl,_,rfl,?_⟩;by_cases hlt:x<wd
    ·refine itP (decide_eq_true hlt) ?_
     refine⟨_,rfl,_,rfl,_,rfl,Lf,lf,x,rfl,SqL.of (sG' Lf _ hL1),by omega,fun D2 G2 hD2 s2 hd2=>?_⟩;have hrl:=Dt.gH hlnd hxl;refine⟨_,rfl,x,rfl,⟨hxx.1,hxx.2⟩,_,rfl,D2,Dt.rm lf x,Wd.fin x,other,rfl,.inl (SqL.of hd2),⟨Dt.gF hlnd,by omega,fun y hy=>hlx y (Dt.gB.mp hy).1⟩,fun G3 s3=>?_⟩;refine⟨_,_,rfl,rfl,sG'.trans (s2.trans s3),some (T x),?_⟩;rw[htk,hstep,if_pos hlt,<- pk,gi (acc+_)];rfl
    ·refine itN (fun z=>hlt (of_decide_eq_true z)) ?_
     refine⟨sG',some (T x),?_⟩;rw[htk,hstep,if_neg hlt,ko];rfl
   ·rintro σ G' ⟨sG',v6,rfl⟩
    rw[aR,da];refine⟨_,rfl,_,rfl,Lf,lf,wd,rfl,SqL.of (sG' Lf _ hL1),by omega,fun D4 G4 hD4 s4 hd4=>?_⟩;have hrl:=Dt.gH hlnd hwl;refine⟨sG.trans (s1.trans (sG'.trans s4)),D4,Dt.rm lf wd,_,_,_,hd4,Dt.gF hlnd,(hpl.trans (Dt.hZ hlnd hwl)).cons_inv,fun y hy=>hsub y (Dt.gB.mp hy).1,by omega,?_,rfl⟩;rw[<- hacc];exact pk _ _ _
  ·rintro σ G ⟨sG,Lf,lf,acc,v5,v6,hL,hlnd,hpl,hsub,hll,hacc,rfl⟩
   rw[aR,ng] at hacc;have e:acc=Dt.rk other ms us:=by
    rw[<- hacc];show acc=acc+0;omega
   rw[e];exact⟨_,rfl,q G sG⟩
theorem Rf {ms:List (List Nat)}{m0:List Nat}(hnd:ms.Nodup)(h:ms[0]?=some m0):ms=m0::ms.drop 1∧ms.drop 1=Dt.rm ms m0:=by
 cases ms with
 | nil=>cases h
 | cons x r =>
  have e:x=m0:=by simpa using h
  subst e;refine⟨rfl,?_⟩;rw[ck] at hnd;show r=((x::r).filter fun y=>!decide (y=x));rw[di (by simp),lr.mpr fun y hy=>by have:y≠x:=fun z=>hnd.1 (z▸hy);simp[this]]
theorem Jv {ls:List (List Nat)}{k:Nat}(h:k<=ls.length):fK (ls.map T) (some (k:Int)) none=(ls.drop k).map T:=by
 unfold fK;rw[HT.eG,HT.fX,aR,eh h,<- jw,<- lc,cq (by rw[b9];omega)]
theorem Qo {ls:List (List Nat)}(h:0<ls.length):¬ (HT.sIx (ls.map T).length 0 (some (1:Int))=0∧HT.sIx (ls.map T).length (ls.map T).length none=(ls.map T).length):=fun z=>by
 have z1:=z.1;rw[show HT.sIx (ls.map T).length 0 (some (1:Int))=min 1 (ls.map T).length from HT.eG _ _ 1,aR] at z1;omega
def qZ (C:Addr):Sp:=fun vs H Q _=>∃ (x tp:Addr) (n:Nat) (ms:List (List Nat)) (m0:List Nat),vs=[.ref x]∧gR C H x tp n ms∧gG ms n∧ms[0]?=some m0∧∀ (H':Hp),aJ H H'->Q (.int (Dt.eN (Dt.rm ms m0) (Wd.fin m0) (Wd.beg m0):Nat)) H'
theorem vA {f:Addr}{fd:FuncData}(F:Fun K "ring_count" "ring_count" fE f fd)(tt:Txt K mg ad)(C_ways_on:Cal P w K mg base (CX1 P w) "ways_on" 5 ["words", "one", "other"] (iM K))(C_end_of:Cal P w K mg base (CX1 P w) "end_of" 1 ["word"] lZ)(C_begin_of:Cal P w K mg base (CX1 P w) "begin_of" 1 ["word"] gQ):bQ P w K mg base (CX1 P w) 6 f fd ["web"] (qZ ad.Web):=by
 refine F.okN lQ (fun vs H Q E h=>?_) (fun cdv A outer s H vs Q E hr h=>?_)
 ·obtain⟨x,tp,n,ms,m0,rfl,_⟩:=h
  rfl
 ·obtain⟨x,tp,n,ms,m0,rfl,hW,hok,hm0,q⟩:=h
  have hs:sizeLine=16777216:=sizeLine_eq;obtain⟨⟨dx,hx⟩,htp⟩:=id hW;obtain⟨hne,h64,hn,hxs,hnd⟩:=id hok;have hm0m:=ay hm0;have hm0l:=(hxs m0 hm0m).1;obtain⟨hd0,hdr⟩:=Rf hnd hm0;have hpos:=cj.mpr hne;refine⟨_,(aB (aH (i:=1) lQ.nd rfl (Or.inl rfl) (cU oA (fF (pv 0) rfl) aG (fun _ _=>rfl)))
   (aF (aV (aI C_ways_on hr aO (aA (bL Tf (fF (pv 0) rfl) (bK aG) cP) (aA (aI C_end_of hr aO (aA (pv 1) aC)) (aA (aI C_begin_of hr aO (aA (pv 1) aC)) aC))))))),?_⟩
  (try rw[cM]);(try rw[cxK1])
  refine⟨_,rfl,x,ad.Web,dx,_,_,rfl,hx,tt.cl_Web,tt.na_Web_words,gO _ _,tp,_,_,_,rfl,rfl,SqT.of htp,cD (j:=0) (by rw[al,hm0];rfl),?_⟩;refine⟨_,rfl,x,ad.Web,dx,_,_,rfl,hx,tt.cl_Web,tt.na_Web_words,gO _ _,_,rfl,tp,_,rfl,SqT.of htp,Qo hpos,fun p1 hp1=>?_⟩;rw[show fK (ms.map T) (some (1:Int)) none=(ms.drop 1).map T from Jv (k:=1) hpos,hdr];have s1:=aL (o:=.tup ((Dt.rm ms m0).map T)) hp1;refine⟨_,rfl,m0,rfl,⟨by omega,by omega⟩,_,rfl,m0,rfl,⟨by omega,by omega⟩,p1,Dt.rm ms m0,Wd.fin m0,Wd.beg m0,rfl,.inr (SqT.of aE),⟨Dt.gF hnd,a5 (db ..) h64,fun y hy=>by have:=(hxs y (Dt.gB.mp hy).1).1;omega⟩,fun G2 s2=>q G2 (s1.trans s2)⟩
def IsP (ms:List (List Nat))(z:List Nat):Prop:=∃ w∈ms,z=beg w∨z=w.drop 1
theorem Oa {k:Nat}{ls ps:List (List Nat)}{p:List Nat}(h:uL k ls)(hn:ps.Nodup)(hm:∀ z∈ps,z=p∨IsP ls z):ps.length<=k+1:=by
 obtain⟨qs,h1,h2⟩:=h
 have:=Hg.kP (ms:=p::qs) hn fun z hz=>by
  rcases hm z hz with rfl | ⟨w,hw,rfl | rfl⟩
  ·exact ar ..
  ·exact ah _ (h2 w hw).1
  ·exact ah _ (h2 w hw).2
 rw[a9] at this;omega
theorem Rk {ls ps:List (List Nat)}{p:List Nat}(h:Few ls)(hn:ps.Nodup)(hm:∀ z∈ps,z=p∨IsP ls z):ps.length<64:=by
 have:=Oa h hn hm
 omega
def gZ (C:Addr):Sp:=fun vs H Q _=>∃ (x tp:Addr) (n:Nat) (ms:List (List Nat)),vs=[.ref x]∧gR C H x tp n ms∧gG ms n ∧
 ∀ (D:Addr) (ps:List (List Nat)) (H':Hp),H D=none->aJ H H'->H' D=some (.lst (ps.map T))->ps.Pairwise (fun a b=>¬ b<a)->ps.Nodup->(∀ z,z∈ps↔IsP ms z)->Q (.ref D) H'
theorem Ki {f:Addr}{fd:FuncData}(F:Fun K "pieces" "pieces" gY f fd)(tt:Txt K mg ad)(C_begin_of:Cal P w K mg base (CX1 P w) "begin_of" 1 ["word"] gQ)(C_end_of:Cal P w K mg base (CX1 P w) "end_of" 1 ["word"] lZ) :
  bQ P w K mg base (CX1 P w) 2 f fd ["web"] (gZ ad.Web):=by
 refine F.okN Jo (fun vs H Q E h=>?_) (fun cdv A outer s H vs Q E hr h=>?_)
 ·obtain⟨x,tp,n,ms,rfl,_⟩:=h
  rfl
 ·obtain⟨x,tp,n,ms,rfl,hW,hok,q⟩:=h
  have hs:sizeLine=16777216:=sizeLine_eq;obtain⟨⟨dx,hx⟩,htp⟩:=id hW;obtain⟨hne,h64,hn,hxs,hnd⟩:=id hok;have ulen:∀ ls:List (List Nat),(uniq ls).length<=ls.length:=fun ls=>oB ls _
  refine⟨_,(aF (aV (aN (uV rfl) (by rfl) tt.b_sorted df (aA (aU Ty (cW (wU rfl) (by rfl) tt.b_set (by decide +kernel) (aA (eI Bf rfl (oH (fF (pv 0) rfl)) (fun cl C s' H' fp=>(aI C_begin_of hr aO (aA (pv 0) aC)))) aC)) (cW (wU rfl) (by rfl) tt.b_set (by decide +kernel) (aA (eI Cn rfl (oH (fF (pv 0) rfl)) (fun cl C s' H' fp=>(aI C_end_of hr aO (aA (pv 0) aC)))) aC))) aC)))),?_⟩
  (try rw[cM]);(try rw[cxK1])
  refine⟨_,rfl,x,ad.Web,dx,_,_,rfl,hx,tt.cl_Web,tt.na_Web_words,gO _ _,tp,rfl,⟨_,SqT.of htp⟩,?_⟩;refine nP (fun v=>T (beg (unT v))) (iD (SqT.of htp)) (by rw[aR];omega) (fun v H2 hv s2 N hN=>?_) fun D1 H2 hD1 s2 hd2=>?_
  ·obtain⟨l,hl,rfl⟩:=au.mp hv
   have hll:=(hxs l hl).1;have z:=hN H2 (aJ.refl _);rw[dS] at z;exact⟨_,rfl,l,rfl,⟨by omega,by omega⟩,z⟩
  rw[lJ (f:=fun l=>T (beg l)),show ms.map (fun l=>T (beg l))=(ms.map beg).map T by rw[br];rfl] at hd2;refine⟨D1,ms.map beg,rfl,SqL.of hd2,(by rw[aR];omega),fun S1 hS1=>?_⟩;have s3:=s2.trans (aL (o:=nB w S1 (uniq (ms.map beg))) hS1);have hd3:upd H2 S1 (nB w S1 (uniq (ms.map beg))) S1=some (nB w S1 (uniq (ms.map beg))):=aE;refine⟨_,rfl,x,ad.Web,dx,_,_,rfl,s3 x _ hx,tt.cl_Web,tt.na_Web_words,gO _ _,tp,rfl,⟨_,SqT.of (s3 tp _ htp)⟩,?_⟩;refine nP (fun v=>T ((unT v).drop 1)) (iD (SqT.of (s3 tp _ htp))) (by rw[aR];omega) (fun v H4 hv s4 N hN=>?_) fun D2 H4 hD2 s4 hd4=>?_
  ·obtain⟨l,hl,rfl⟩:=au.mp hv
   have hll:=(hxs l hl).1;have z:=hN H4 (aJ.refl _);rw[dS] at z;exact⟨_,rfl,l,rfl,⟨by omega,by omega⟩,z⟩
  rw[lJ (f:=fun l=>T (l.drop 1)),show ms.map (fun l=>T (l.drop 1))=(ms.map fun l=>l.drop 1).map T by rw[br];rfl] at hd4;refine⟨D2,ms.map (fun l=>l.drop 1),rfl,SqL.of hd4,(by rw[aR];omega),fun S2 hS2=>?_⟩;have s5:=aL (o:=nB w S2 (uniq (ms.map fun l=>l.drop 1))) hS2;have l1:=ulen (ms.map beg);have l2:=ulen (ms.map fun l=>l.drop 1);rw[aR] at l1 l2;have hS1':=s5 S1 _ (s4 S1 _ hd3);have ne12:S1≠S2:=fun z=>by
   have g:=s4 S1 _ hd3;rw[z,hS2] at g;cases g
  refine⟨S1,S2,_,_,rfl,rfl,ne12,hS1',aE,(fun z=>?_),(by omega),fun D5 qs hD5 hqn hql hqm=>?_⟩
  ·obtain⟨m0,hm0⟩:∃ m0,m0∈ms:=gx _ hne
   have:beg m0∈uniq (ms.map beg):=(iI _ _).mpr (gm hm0)
   rw[z] at this;cases this
  have s6:=aL (o:=nB w D5 qs) hD5;refine⟨D5,qs,rfl,aE,(Rk (p:=[]) hok.2.2.1.2 hqn fun z hz=>.inr ?few),fun ps D6 hD6 hp6 hw6=>?_⟩
  case few =>
   rw[hqm,iI,iI,au,au] at hz;rcases hz with ⟨l,hl,rfl⟩ | ⟨l,hl,rfl⟩
   ·exact⟨l,hl,.inl rfl⟩
   ·exact⟨l,hl,.inr rfl⟩
  have s7:=aL (o:=.lst (ps.map T)) hD6;have sall:=s3.trans (s4.trans (s5.trans (s6.trans s7)));have hD6':H D6=none:=by
   cases e:H D6 with
   | none=>rfl
   | some o =>
    have g:=(s3.trans (s4.trans (s5.trans s6))) D6 o e;exact absurd (g.symm.trans hD6) (fun z=>nomatch z)
  refine q D6 ps _ hD6' sall aE hw6 (hp6.nodup_iff.mpr hqn) fun z=>?_
  rw[hp6.mem_iff,hqm,iI,iI,au,au];constructor
  ·rintro (⟨l,hl,rfl⟩ | ⟨l,hl,rfl⟩)
   ·exact⟨l,hl,.inl rfl⟩
   ·exact⟨l,hl,.inr rfl⟩
  ·rintro⟨l,hl,rfl | rfl⟩
   ·exact .inl ⟨l,hl,rfl⟩
   ·exact .inr ⟨l,hl,rfl⟩
def Bo (ms:List (List Nat))(p:List Nat):List (List Nat):=ms.filter fun l=>decide (beg l=p)
def Dv (C:Addr):Sp:=fun vs H Q _=>∃ (x tp:Addr) (n:Nat) (ms:List (List Nat)) (p:List Nat),vs=[.ref x,T p]∧gR C H x tp n ms∧gG ms n∧∀ D H',H D=none->aJ H H'->H' D=some (.lst ((Bo ms p).map T))->Q (.ref D) H'
theorem Pk {f:Addr}{fd:FuncData}(F:Fun K "outs" "outs" mJ f fd)(tt:Txt K mg ad)(C_begin_of:Cal P w K mg base (CX1 P w) "begin_of" 1 ["word"] gQ):bQ P w K mg base (CX1 P w) 2 f fd ["web", "piece"] (Dv ad.Web):=by
 refine F.okN Pz (fun vs H Q E h=>?_) (fun cdv A outer s H vs Q E hr h=>?_)
 ·obtain⟨x,tp,n,ms,p,rfl,_⟩:=h
  rfl
 ·obtain⟨x,tp,n,ms,p,rfl,hW,hok,q⟩:=h
  have hs:sizeLine=16777216:=sizeLine_eq;obtain⟨⟨dx,hx⟩,htp⟩:=id hW;obtain⟨hne,h64,⟨hn,hfew⟩,hxs,hnd⟩:=id hok;refine⟨_,(aF (aV (tQ Ih rfl (oH (fF (pv 0) rfl)) (fun cl C s' H' fp=>(aW nK (aI C_begin_of hr aO (aA (pv 0) aC)) (pv 2) (aY _))) (fun cl C s' H' fp=>(pv 0))))),?_⟩
  (try rw[cM]);(try rw[cxK1])
  refine⟨_,rfl,x,ad.Web,dx,_,_,rfl,hx,tt.cl_Web,tt.na_Web_words,gO _ _,tp,rfl,⟨_,SqT.of htp⟩,?_⟩;refine kZ (fun v=>decide (beg (unT v)=p)) (fun v=>v) (iD (SqT.of htp)) (by rw[aR];omega) (fun v H2 hv s2 N hN=>?_) (fun v H2 hv hp s2 N hN=>?_) fun D1 H2 hD1 s2 hd2=>?_
  ·obtain⟨l,hl,rfl⟩:=au.mp hv
   have hll:=hxs l hl;have z:=hN H2 (aJ.refl _);rw[dS] at z;exact⟨_,rfl,l,rfl,⟨by omega,by omega⟩,_,rfl,_,rfl,_,rfl,_,rfl,z⟩
  ·exact⟨_,rfl,hN H2 (aJ.refl _)⟩
  rw[show (ms.map T).filter (fun v=>decide (beg (unT v)=p))=(ms.filter fun l=>decide (beg l=p)).map T from dX (p:=fun l=>decide (beg l=p)) ms,t9] at hd2;exact q D1 H2 hD1 s2 hd2
def exc (ms so:List (List Nat)):Int:=((ms.filter fun l=>decide (beg l∈so)).length:Int)-((ms.filter fun l=>decide (l.drop 1∈so)).length:Int)
def kO (K:ae)(C:Addr):Sp:=fun vs H Q _=>∃ (x tp b:Addr) (n:Nat) (ms so:List (List Nat)),vs=[.ref x,.ref b]∧gR C H x tp n ms∧gG ms n∧Sq K H b (so.map T)∧∀ (H':Hp),aJ H H'->Q (.int (exc ms so)) H'
theorem Id {f:Addr}{fd:FuncData}(F:Fun K "excess" "excess" gT f fd)(tt:Txt K mg ad)(C_begin_of:Cal P w K mg base (CX1 P w) "begin_of" 1 ["word"] gQ)(C_end_of:Cal P w K mg base (CX1 P w) "end_of" 1 ["word"] lZ) :
  bQ P w K mg base (CX1 P w) 2 f fd ["web", "some"] (kO K ad.Web):=by
 refine F.okN oP (fun vs H Q E h=>?_) (fun cdv A outer s H vs Q E hr h=>?_)
 ·obtain⟨x,tp,b,n,ms,so,rfl,_⟩:=h
  rfl
 ·obtain⟨x,tp,b,n,ms,so,rfl,hW,hok,hB,q⟩:=h
  have hs:sizeLine=16777216:=sizeLine_eq;obtain⟨⟨dx,hx⟩,htp⟩:=id hW;obtain⟨hne,h64,hn,hxs,hnd⟩:=id hok;refine⟨_,(aB (fN (i:=2) Bn rfl (oH (fF (pv 0) rfl)) (fun cl C s' H' fp=>(aW (tR K rfl) (aI C_begin_of hr aO (aA (pv 0) aC)) (pv 2) (by with_unfolding_all rfl))) (fun cl C s' H' fp=>(pv 0)) oP.nd rfl rfl)
   (aB (fN (i:=3) Bs rfl (oH (fF (pv 0) rfl)) (fun cl C s' H' fp=>(aW (tR K rfl) (aI C_end_of hr aO (aA (pv 0) aC)) (pv 2) (by with_unfolding_all rfl))) (fun cl C s' H' fp=>(pv 0)) oP.nd rfl rfl)
   (aF (aV (aU eK (aN aX (by rfl) tt.b_len bh (aA (pv 2) aC)) (aN aX (by rfl) tt.b_len bh (aA (pv 3) aC))))))),?_⟩
  (try rw[cM]);(try rw[cxK1])
  refine⟨_,rfl,x,ad.Web,dx,_,_,rfl,hx,tt.cl_Web,tt.na_Web_words,gO _ _,tp,rfl,⟨_,SqT.of htp⟩,?_⟩;refine kZ (fun v=>decide (beg (unT v)∈so)) (fun v=>v) (iD (SqT.of htp)) (by rw[aR];omega) (fun v H2 hv s2 N hN=>?_) (fun v H2 hv hp s2 N hN=>?_) fun D1 H2 hD1 s2 hd2=>?_
  ·obtain⟨l,hl,rfl⟩:=au.mp hv
   have hll:=(hxs l hl).1;have z:=hN H2 (aJ.refl _);rw[dS] at z;refine⟨_,rfl,l,rfl,⟨by omega,by omega⟩,_,rfl,b,_,rfl,hB.on s2,rfl,jN so,_,rfl,?_⟩;show N (inV (T (beg l)) (so.map T)) H2;rw[vZ];exact z
  ·exact⟨_,rfl,hN H2 (aJ.refl _)⟩
  rw[show (ms.map T).filter (fun v=>decide (beg (unT v)∈so))=(ms.filter fun l=>decide (beg l∈so)).map T from dX (p:=fun l=>decide (beg l∈so)) ms,lA] at hd2;refine⟨_,rfl,x,ad.Web,dx,_,_,rfl,s2 x _ hx,tt.cl_Web,tt.na_Web_words,gO _ _,tp,rfl,⟨_,SqT.of (s2 tp _ htp)⟩,?_⟩;refine kZ (fun v=>decide ((unT v).drop 1∈so)) (fun v=>v) (iD (SqT.of (s2 tp _ htp))) (by rw[aR];omega) (fun v H3 hv s3 N hN=>?_) (fun v H3 hv hp s3 N hN=>?_) fun D2 H3 hD2 s3 hd3=>?_
  ·obtain⟨l,hl,rfl⟩:=au.mp hv
   have hll:=(hxs l hl).1;have z:=hN H3 (aJ.refl _);rw[dS] at z;refine⟨_,rfl,l,rfl,⟨by omega,by omega⟩,_,rfl,b,_,rfl,(hB.on s2).on s3,rfl,jN so,_,rfl,?_⟩;show N (inV (T (l.drop 1)) (so.map T)) H3;rw[vZ];exact z
  ·exact⟨_,rfl,hN H3 (aJ.refl _)⟩
  rw[show (ms.map T).filter (fun v=>decide ((unT v).drop 1∈so))=(ms.filter fun l=>decide (l.drop 1∈so)).map T from dX (p:=fun l=>decide (l.drop 1∈so)) ms,lA] at hd3;refine⟨_,rfl,D1,_,rfl,.inl (SqL.of (s3 D1 _ hd2)),_,rfl,D2,_,rfl,.inl (SqL.of hd3),_,_,rfl,rfl,?_⟩;rw[aR,aR];exact q H3 (s2.trans s3)
abbrev En (l:List Nat):List Nat:=l.drop 1
abbrev Rc (ms:List (List Nat))(p z:List Nat):Prop:=Hg.Rch beg En ms p z
theorem Gq {t:List Nat}{v:V}:∀ {ls:List (List Nat)},eO (tKs ls v) (ca (tx t))=if t∈ls then some v else none
 | []=>by simp[tKs,eO]
 | l::ls=>by
  have ih:=@Gq t v ls;unfold tKs eO at ih ⊢;rw[am,gz];by_cases e:l=t
  ·subst e
   simp
  ·have e2:¬ (ca (tx l):Key)=ca (tx t):=fun z=>e (fZ (g0 z))
   have e3:¬ t=l:=fun z=>e z.symm
   simp only [e2,decide_false,aw,e3,false_or];exact ih
theorem qX {t:List Nat}{v:V}{ls:List (List Nat)}:fT (tKs ls v) (ca (tx t)) v=tKs (Hg.oT ls t) v:=by
 have e:((tKs ls v).any fun kv=>decide (kv.1=ca (tx t)))=decide (t∈ls):=by
  rw[c7,nc,decide_eq_true_iff];constructor
  ·rintro⟨kv,h1,h2⟩
   obtain⟨l,hl,rfl⟩:=au.mp h1
   have:=fZ (g0 (of_decide_eq_true h2))
   exact this▸hl
  ·exact fun h=>⟨_,gm h,decide_eq_true rfl⟩
 unfold fT Hg.oT;rw[e];by_cases h:t∈ls
 ·rw[if_pos (decide_eq_true h),if_pos h]
  conv=>rhs;rw[<- j6 (tKs ls v)]
  refine bv fun kv hkv=>?_
  obtain⟨l,_,rfl⟩:=au.mp hkv;split
  ·rfl
  ·rfl
 ·rw[if_neg (by rw[decide_eq_false h];exact ak),if_neg h]
  unfold tKs;rw[bn];rfl
theorem Ou (ls:List (List Nat))(v:V):(tKs ls v).map (·.1)=ls.map fun t=>ca (tx t):=by
 unfold tKs;rw[br];rfl
theorem lE (ls:List (List Nat))(v:V):(tKs ls v).length=ls.length:=by unfold tKs;rw[aR]
theorem Ut {ms:List (List Nat)}{p z:List Nat}(h:Rc ms p z):z=p∨IsP ms z:=by
 rcases Hg.Cv h with rfl | g
 ·exact .inl rfl
 ·rcases bj.mp g with g | g
  ·obtain⟨l,hl,e⟩:=au.mp g
   exact .inr ⟨l,hl,.inl e.symm⟩
  ·obtain⟨l,hl,e⟩:=au.mp g
   exact .inr ⟨l,hl,.inr e.symm⟩
def Ms (K:ae):Sp:=fun vs H Q _=>∃ (a:Addr) (ms:List (List Nat)) (p:List Nat),vs=[.ref a,T p]∧SqT K H a (ms.map T)∧(ms.length<=64∧∀ x∈ms,1<=x.length∧x.length<=1000) ∧
 ∀ (D:Addr) (H':Hp) (ls:List (List Nat)),H D=none->aJ H H'->H' D=some (.dK (tKs ls (.bl true)))->ls.Nodup->(∀ z,z∈ls↔Rc ms p z)->Q (.ref D) H'
theorem uX {f:Addr}{fd:FuncData}(F:Fun K "hanging_by" "hanging_by" fD f fd)(tt:Txt K mg ad)(C_begin_of:Cal P w K mg base (CX1 P w) "begin_of" 1 ["word"] gQ)(C_end_of:Cal P w K mg base (CX1 P w) "end_of" 1 ["word"] lZ) :
  bQ P w K mg base (CX1 P w) 2 f fd ["words", "piece"] (Ms K):=by
 refine F.okN fI (fun vs H Q E h=>?_) (fun cdv A outer s H vs Q E hr h=>?_)
 ·obtain⟨a,ms,p,rfl,_⟩:=h
  rfl
 ·obtain⟨a,ms,p,rfl,hS,⟨h64,hxl⟩,q⟩:=h
  have hs:sizeLine=16777216:=sizeLine_eq;refine⟨_,(aB (aH (i:=2) fI.nd rfl (Or.inl rfl) (Qz (Me (pv 1) qH Qf) rfl rfl (fun z=>nomatch z) (by decide)))
   (aB (aH (i:=3) fI.nd rfl (Or.inl rfl) aG)
   (aB (jH PassesOwn.never (aW lU (pv 3) (aN wL (by rfl) tt.b_len bh (aA (pv 2) aC)) (aY _)) (aB (aH (i:=3) fI.nd rfl (Or.inl rfl) (aN wL (by rfl) tt.b_len bh (aA (pv 2) aC)))
   (aF (dW PassesOwn.never rfl (oH (pv 0)) (cG (i:=4) fI.nd rfl (Or.inl rfl)) (aF (bW (PW.pt (pZ (mE (Kz (fV hr) (aI C_begin_of hr aO (aA (pv 4) aC)) (pv 2))) (mO (mE (Kz (fV hr) (aI C_end_of hr aO (aA (pv 4) aC)) (pv 2)))))) (aB (rB (fV hr) (pv 2) (aI C_begin_of hr aO (aA (pv 4) aC)) qH rfl)
   (aF (rB (fV hr) (pv 2) (aI C_end_of hr aO (aA (pv 4) aC)) qH rfl))) bA))))))
   (aF (aV (pv 2)))))),?_⟩
  (try rw[cM]);(try rw[cxK1])
  intro D hD;refine⟨_,rfl,aE,[(ca (tx p),.bl true)],rfl,(by show 1<=15;decide),?_⟩;have sD:aJ H (upd H D (.dK (tKs [p] (.bl true)))):=aL hD;have e1:upd (upd H D (.dK [])) D (.dK (oC [] [(ca (tx p),.bl true)]))=upd H D (.dK (tKs [p] (.bl true))):=by
   rw[He];rfl
  rw[e1];refine⟨fun m σ H2=>∃ (fs:List (List Nat)) (kn:Nat) (v4:Option V),m=2*ms.length+2-kn∧aJ H H2∧H2 D=some (.dK (tKs fs (.bl true)))∧fs.Nodup∧p∈fs∧(∀ z∈fs,Rc ms p z)∧kn<=fs.length∧(kn=fs.length->∀ x∈ms,Hg.Cl beg En fs x)∧σ=[some (.ref a),some (T p),some (.ref D),some (.int (kn:Nat)),v4],
   ⟨_,[p],0,none,rfl,sD,aE,by simp,by simp,(fun z hz=>by rw[az.mp hz];exact .self),b8 _,(fun z=>nomatch z),rfl⟩,?_⟩
  rintro m σ H2 ⟨fs,kn,v4,hm,s2,hd2,hnd,hp,hrc,hkn,hcl,rfl⟩;have hfl:=Hg.Md hnd hrc;refine⟨_,rfl,_,rfl,D,_,rfl,hd2,_,_,rfl,rfl,_,rfl,?_⟩;rw[lE];refine kS (fun h0=>?_) (fun h0=>?_)
  ·have h0':kn<fs.length:=by have:=of_decide_eq_true h0;omega
   refine⟨fun σ' H'=>∃ m'<m,∃ (fs:List (List Nat)) (kn:Nat) (v4:Option V),m'=2*ms.length+2-kn∧aJ H H'∧H' D=some (.dK (tKs fs (.bl true)))∧fs.Nodup∧p∈fs∧(∀ z∈fs,Rc ms p z)∧kn<=fs.length∧(kn=fs.length->∀ x∈ms,Hg.Cl beg En fs x)∧σ'=[some (.ref a),some (T p),some (.ref D),some (.int (kn:Nat)),v4],fun σ' H' z=>z,?_⟩;refine⟨_,rfl,D,_,rfl,hd2,?_⟩;rw[lE];refine⟨_,rfl,a,rfl,⟨_,pV s2 hS⟩,?_⟩;refine Ra (K:=K) (a:=a) (xs:=ms.map T) (fun i σ H3=>aJ H H3∧∃ (ls:List (List Nat)) (v4:Option V),H3 D=some (.dK (tKs ls (.bl true)))∧Hg.Pass beg En ms p fs i ls∧σ=[some (.ref a),some (T p),some (.ref D),some (.int (fs.length:Nat)),v4]) ⟨s2,fs,v4,hd2,.zero hnd hrc,rfl⟩ (fun i σ H3 _ h=>pV h.1 hS) ?_ ?_
   ·rintro i y σ H3 hi ⟨s3,ls,v4,hd3,hps,rfl⟩
    obtain⟨x,hx,rfl⟩:∃ x,ms[i]?=some x∧T x=y:=by rw[al] at hi;exact bi.mp hi
    have hxx:=hxl x (ay hx);have hdx:∀ t:List Nat,nL H3 D (T t) (if t∈ls then some (.bl true) else none):=fun t=>by have g:=nL.k (k:=ca (tx t)) hd3;rwa [Gq] at g
    have l3:=Hg.Md hps.nd hps.rch;have sameD:∀ {G:Hp} {o1 o2:HO},aJ H G->aJ H (upd (upd G D o1) D o2):=fun sg b o e=>by
     rw[aK (aM e hD),aK (aM e hD)];exact sg b o e
    refine⟨_,rfl,x,rfl,hxx,_,rfl,D,_,rfl,hdx _,_,rfl,?_⟩;by_cases hb:beg x∈ls
    ·refine itP (by show (if beg x∈ls then some (V.bl true) else none).isSome=true;rw[if_pos hb];rfl) ?_
     refine⟨_,rfl,_,rfl,x,rfl,hxx,D,_,rfl,sB.k (k:=ca (tx (beg x))) hd3 (by rw[lE];omega),?_⟩;rw[qX];refine⟨_,rfl,_,rfl,x,rfl,hxx,D,_,rfl,sB.k (k:=ca (tx (En x))) aE (by rw[lE];have:=Hg.zR ls (beg x);omega),?_⟩;rw[qX];exact⟨sameD s3,_,some (T x),aE,hps.yes hx (.inl hb),rfl⟩
    ·refine itN (by show ¬ (if beg x∈ls then some (V.bl true) else none).isSome=true;rw[if_neg hb];exact ak) ?_
     refine⟨_,rfl,x,rfl,hxx,_,rfl,D,_,rfl,hdx _,_,rfl,?_⟩;by_cases he:En x∈ls
     ·refine itP (by show (if En x∈ls then some (V.bl true) else none).isSome=true;rw[if_pos he];rfl) ?_
      refine⟨_,rfl,_,rfl,x,rfl,hxx,D,_,rfl,sB.k (k:=ca (tx (beg x))) hd3 (by rw[lE];omega),?_⟩;rw[qX];refine⟨_,rfl,_,rfl,x,rfl,hxx,D,_,rfl,sB.k (k:=ca (tx (En x))) aE (by rw[lE];have:=Hg.zR ls (beg x);omega),?_⟩;rw[qX];exact⟨sameD s3,_,some (T x),aE,hps.yes hx (.inr he),rfl⟩
     ·refine itN (by show ¬ (if En x∈ls then some (V.bl true) else none).isSome=true;rw[if_neg he];exact ak) ?_
      exact⟨s3,ls,some (T x),hd3,hps.no hx hb he,rfl⟩
   ·rintro σ H3 ⟨s3,ls,v4,hd3,hps,rfl⟩
    have l1:=hps.pre.length_le;refine⟨_,?_,ls,fs.length,v4,rfl,s3,hd3,hps.nd,hps.pre.subset hp,hps.rch,l1,(fun e x hx=>?_),rfl⟩
    ·omega
    ·have hc:=hps.cl e.symm x (by rw[aR,da];exact hx)
     rwa [hps.pre.eq_of_length e] at hc
  ·have h0':kn=fs.length:=by have z:¬ ((kn:Int)<(fs.length:Int)):=fun z=>h0 (decide_eq_true z);omega
   exact⟨_,rfl,q D H2 fs hD s2 hd2 hnd fun z=>⟨hrc z,fun hz=>hz.inside hp (hcl h0')⟩⟩
def Cu (C:Addr)(ad:Adr):Sp:=fun vs H Q E=>∃ (x tp:Addr) (n:Nat) (ms:List (List Nat)) (p:List Nat),vs=[.ref x,T p]∧gR C H x tp n ms∧gG ms n∧(¬ IsP ms p->∀ H',aJ H H'->E (.ref ad.NoSuch) none H') ∧
 (IsP ms p->∀ (D:Addr) (ps:List (List Nat)) (H':Hp),H D=none->aJ H H'->H' D=some (.lst (ps.map T))->ps.Pairwise (fun a b=>¬ b<a)->ps.Nodup->(∀ z,z∈ps↔Rc ms p z)->Q (.ref D) H')
theorem Io {H G:Hp}{D:Addr}(s:aJ H G)(h:G D=none):H D=none:=by
 cases e:H D with
 | none=>rfl
 | some o=>exact absurd ((s D o e).symm.trans h) (fun z=>nomatch z)
theorem Eg {f:Addr}{fd:FuncData}(F:Fun K "hanging" "hanging" iB f fd)(tt:Txt K mg ad)(C_pieces:Cal P w K mg base (CX1 P w) "pieces" 2 ["web"] (gZ ad.Web))(C_hanging_by:Cal P w K mg base (CX1 P w) "hanging_by" 2 ["words", "piece"] (Ms K)) :
  bQ P w K mg base (CX1 P w) 3 f fd ["web", "piece"] (Cu ad.Web ad):=by
 refine F.okX Dd (fun vs H Q E h=>?_) (fun cdv A outer s H vs Q E hr h=>?_)
 ·obtain⟨x,tp,n,ms,p,rfl,_⟩:=h
  rfl
 ·obtain⟨x,tp,n,ms,p,rfl,hW,hok,xn,q⟩:=h
  have hs:sizeLine=16777216:=sizeLine_eq;obtain⟨⟨dx,hx⟩,htp⟩:=id hW;obtain⟨hne,h64,hn,hxs,hnd⟩:=id hok;refine⟨_,(aB (bW (aW nH (pv 1) (aI C_pieces hr aO (aA (pv 0) aC)) (by with_unfolding_all rfl)) (aF (eM (E:=fun cls H'=>E cls none H') tt.x_NoSuch rfl (fun _ _ _ _ _ _ _ I hx q=>iJ I hx q) (aA (bT [116,104,101,32,119,101,98,32,104,97,115,32,110,111,32,115,117,99,104,32,112,105,101,99,101] (by decide +kernel)) aC))) bA)
   (aF (aV (aN (vF rfl) (by rfl) tt.b_sorted df (aA (aI C_hanging_by hr aO (aA (fF (pv 0) rfl) (aA (pv 1) aC))) aC))))),?_⟩
  (try rw[cM]);(try rw[cxK1])
  refine⟨_,rfl,_,rfl,x,tp,n,ms,rfl,hW,hok,fun D1 ps H1 hD1 s1 hd1 hpw hpn hpm=>?_⟩;refine⟨D1,_,rfl,.inl (SqL.of hd1),rfl,jN ps,_,rfl,?_⟩;by_cases hp:p∈ps
  ·refine itN (by rw[vZ,decide_eq_true hp];exact ak) ?_
   refine⟨_,rfl,x,ad.Web,dx,_,_,rfl,s1 x _ hx,tt.cl_Web,tt.na_Web_words,gO _ _,_,rfl,tp,ms,p,rfl,SqT.of (s1 tp _ htp),⟨by omega,fun y hy=>by have:=(hxs y hy).1;omega⟩,fun D2 H2 ls hD2 s2 hd2 hln hlm=>?_⟩;refine⟨D2,ls,_,rfl,hd2,Ou _ _,Rk hok.2.2.1.2 hln (fun z hz=>Ut ((hlm z).mp hz)),fun qs D3 hD3 hp3 hw3=>?_⟩;exact q ((hpm p).mp hp) D3 qs _ (Io (s1.trans s2) hD3) (s1.trans (s2.trans (aL hD3))) aE hw3 (hp3.nodup_iff.mpr hln) fun z=>by rw[hp3.mem_iff,hlm]
  ·refine itP (by rw[vZ,decide_eq_false hp];rfl) ?_
   exact⟨(by show 1<=sizeLine;omega),xn (fun z=>hp ((hpm p).mpr z)) H1 s1⟩
def Pt:List Nat:=[117,110,101,118,101,110]
def Tm:List Nat:=[97,112,97,114,116]
theorem uL.perm {k:Nat}{ls ms:List (List Nat)}(h:uL k ls)(p:ms.Perm ls):uL k ms:=h.sub fun w hw=>p.mem_iff.mp hw
theorem gG.perm {ls ms:List (List Nat)}{n:Nat}(h:gG ls n)(p:ms.Perm ls):gG ms n:=⟨fun z=>h.1 (bx.mp (by rw[<- p.length_eq,z];rfl)),by rw[p.length_eq];exact h.2.1,⟨h.2.2.1.1,h.2.2.1.2.perm p⟩,fun x hx=>h.2.2.2.1 x (p.mem_iff.mp hx),p.nodup_iff.mpr h.2.2.2.2⟩
theorem Mg {ls ms so:List (List Nat)}(p:ms.Perm ls):exc ms so=exc ls so:=by
 unfold exc;rw[(p.filter fun l=>decide (beg l∈so)).length_eq,(p.filter fun l=>decide (l.drop 1∈so)).length_eq]
abbrev Pap:=Option (List Nat×List (List Nat))
def Np (H:Hp)(v:V):Pap->Prop
 | none=>v = .non
 | some (kd,so)=>∃ p b:Addr,v = .ref p∧H p=some (.tup [T kd,.ref b])∧H b=some (.tup (so.map T))
def Pcs (ms ev:List (List Nat)):Prop:=ev.Pairwise (fun a b=>¬ b<a)∧ev.Nodup∧∀ z,z∈ev↔IsP ms z
theorem Pcs.uniq {ms ls ev eu:List (List Nat)}(h:Pcs ms ev)(g:Pcs ls eu)(p:ms.Perm ls):ev=eu:=Wd.gW ((dh h.2.1 g.2.1).mpr fun z=>by rw[h.2.2,g.2.2];exact⟨fun ⟨w,h1,h2⟩=>⟨w,p.mem_iff.mp h1,h2⟩,fun ⟨w,h1,h2⟩=>⟨w,p.mem_iff.mpr h1,h2⟩⟩) h.1 g.1
def Nl (ms ev:List (List Nat))(r:Pap):Prop:=∃ (z0:List Nat) (so:List (List Nat)),ev[0]?=some z0∧so.Pairwise (fun a b=>¬ b<a)∧so.Nodup∧(∀ z,z∈so↔Rc ms z0 z)∧r=if so.length=ev.length then none else some (Tm,so)
def xM (C:Addr):Sp:=fun vs H Q _=>∃ (x tp:Addr) (n:Nat) (ms:List (List Nat)),vs=[.ref x]∧gR C H x tp n ms∧gG ms n ∧
 ∀ (ev:List (List Nat)) (r:Pap) (v:V) (H':Hp),Pcs ms ev->Nl ms ev r->Np H' v r->aJ H H'->Q v H'
theorem Sw {ms ev:List (List Nat)}(h:Pcs ms ev)(hne:ms≠[]):∃ z0,ev[0]?=some z0∧IsP ms z0:=by
 obtain⟨l,hl⟩:=gx _ hne;have hm:=(h.2.2 (beg l)).mpr ⟨l,hl,.inl rfl⟩;have h0:=ei hm;exact⟨_,aa h0,(h.2.2 _).mp (cz h0)⟩
theorem xW {f:Addr}{fd:FuncData}(F:Fun K "why_apart" "why_apart" fO f fd)(tt:Txt K mg ad)(C_pieces:Cal P w K mg base (CX1 P w) "pieces" 2 ["web"] (gZ ad.Web))(C_hanging:Cal P w K mg base (CX1 P w) "hanging" 3 ["web", "piece"] (Cu ad.Web ad)) :
  bQ P w K mg base (CX1 P w) 4 f fd ["web"] (xM ad.Web):=by
 refine F.okN jZ (fun vs H Q E h=>?_) (fun cdv A outer s H vs Q E hr h=>?_)
 ·obtain⟨x,tp,n,ms,rfl,_⟩:=h
  rfl
 ·obtain⟨x,tp,n,ms,rfl,hW,hok,q⟩:=h
  have hs:sizeLine=16777216:=sizeLine_eq;refine⟨_,(aB (aH (i:=1) jZ.nd rfl (Or.inl rfl) (aI C_pieces hr aO (aA (pv 0) aC)))
   (aB (aH (i:=2) jZ.nd rfl (Or.inl rfl) (aI C_hanging hr aO (aA (pv 0) (aA (cU cK (pv 1) aG (fun _ _=>rfl)) aC))))
   (aB (bW (aW eT (aN aX (by rfl) tt.b_len bh (aA (pv 2) aC)) (aN aX (by rfl) tt.b_len bh (aA (pv 1) aC)) (aY _)) (aF (aV Ff)) bA)
   (aF (aV (uN (aA (bT [97,112,97,114,116] (by decide +kernel)) (aA (cW jB (by rfl) tt.b_tuple (by decide +kernel) (aA (pv 2) aC)) aC)))))))),?_⟩
  (try rw[cM]);(try rw[cxK1])
  refine⟨_,rfl,x,tp,n,ms,rfl,hW,hok,fun D1 ev H1 hD1 s1 hd1 hpw hpn hpm=>?_⟩;have hpc:Pcs ms ev:=⟨hpw,hpn,hpm⟩;obtain⟨z0,hz0,hz0p⟩:=Sw hpc hok.1;refine⟨_,rfl,_,rfl,D1,_,_,_,rfl,rfl,SqL.of hd1,cD (j:=0) (by rw[al,hz0];rfl),x,tp,n,ms,z0,rfl,hW.on s1,hok,fun z=>absurd hz0p z,fun _ D2 so H2 hD2 s2 hd2 hw2 hn2 hm2=>?_⟩;have hwy:Nl ms ev (if so.length=ev.length then none else some (Tm,so)):=⟨z0,so,hz0,hw2,hn2,hm2,rfl⟩;have s12:=s1.trans s2;refine⟨_,rfl,D2,_,rfl,.inl (SqL.of hd2),_,rfl,D1,_,rfl,.inl (SqL.of (s2 D1 _ hd1)),_,rfl,_,rfl,_,rfl,?_⟩;rw[aR,aR];by_cases he:so.length=ev.length
  ·refine itP (decide_eq_true (by rw[he])) ?_
   rw[if_pos he] at hwy;exact q ev none .non H2 hpc hwy rfl s12
  ·refine itN (fun z=>he (by have:=of_decide_eq_true z;omega)) ?_
   rw[if_neg he] at hwy;refine⟨_,rfl,D2,_,rfl,.inl ⟨SqL.of hd2,fun b hb=>?_⟩⟩;have t3:=aL (o:=.tup (so.map T)) hb;refine⟨(by show 2<=sizeLine;omega),fun pp hpp=>?_⟩;have t4:=aL (o:=.tup [T Tm,.ref b]) hpp;exact q ev _ _ _ hpc hwy ⟨pp,b,rfl,aE,t4 b _ aE⟩ (s12.trans (t3.trans t4))
def Vf (ms ev:List (List Nat))(r:Pap):Prop:=(∃ z,ev.find? (fun z=>!decide (exc ms [z]=0))=some z∧r=some (Pt,[z]))∨(ev.find? (fun z=>!decide (exc ms [z]=0))=none∧Nl ms ev r)
def Cr (C:Addr):Sp:=fun vs H Q _=>∃ (x tp:Addr) (n:Nat) (ms:List (List Nat)),vs=[.ref x]∧gR C H x tp n ms∧gG ms n ∧
 ∀ (ev:List (List Nat)) (r:Pap) (v:V) (H':Hp),Pcs ms ev->Vf ms ev r->Np H' v r->aJ H H'->Q v H'
theorem sY {p:List Nat->Bool}{ev:List (List Nat)}{i:Nat}{z:List Nat}(h:(ev.take i).find? p=none)(hz:ev[i]?=some z):(p z=false->(ev.take (i+1)).find? p=none)∧(p z=true->ev.find? p=some z):=by
 constructor
 ·intro hp
  rw[cn,hz,qw,h];simp[hp]
 ·intro hp
  have e:ev=ev.take i++z::ev.drop (i+1):=by
   have g:=(ag.mp hz);rw[<- g.2,<- ft g.1,oq]
  rw[e,qw,h];simp[hp]
theorem sM {f:Addr}{fd:FuncData}(F:Fun K "why_no_ring" "why_no_ring" eE f fd)(tt:Txt K mg ad)(C_pieces:Cal P w K mg base (CX1 P w) "pieces" 2 ["web"] (gZ ad.Web))(C_excess:Cal P w K mg base (CX1 P w) "excess" 2 ["web", "some"] (kO K ad.Web))(C_why_apart:Cal P w K mg base (CX1 P w) "why_apart" 4 ["web"] (xM ad.Web)) :
  bQ P w K mg base (CX1 P w) 5 f fd ["web"] (Cr ad.Web):=by
 refine F.okN kN (fun vs H Q E h=>?_) (fun cdv A outer s H vs Q E hr h=>?_)
 ·obtain⟨x,tp,n,ms,rfl,_⟩:=h
  rfl
 ·obtain⟨x,tp,n,ms,rfl,hW,hok,q⟩:=h
  have hs:sizeLine=16777216:=sizeLine_eq;refine⟨_,(aB (dW PassesOwn.never rfl (cF (aI C_pieces hr aO (aA (pv 0) aC))) (cG (i:=1) kN.nd rfl (Or.inl rfl)) (aF (bW (aW lM (aI C_excess hr aO (aA (pv 0) (aA (eA (aA (pv 1) aC)) aC))) aG (aY _)) (aF (aV (uN (aA (bT [117,110,101,118,101,110] (by decide +kernel)) (aA (uN (aA (pv 1) aC)) aC))))) bA)))
   (aF (aV (aI C_why_apart hr aO (aA (pv 0) aC))))),?_⟩
  (try rw[cM]);(try rw[cxK1])
  refine⟨_,rfl,x,tp,n,ms,rfl,hW,hok,fun D1 ev H1 hD1 s1 hd1 hpw hpn hpm=>?_⟩;have hpc:Pcs ms ev:=⟨hpw,hpn,hpm⟩;refine⟨D1,rfl,⟨_,SqL.of hd1⟩,?_⟩;refine fH (K:=K) (a:=D1) (xs:=ev.map T) (fun i σ H2=>aJ H1 H2∧(ev.take i).find? (fun z=>!decide (exc ms [z]=0))=none∧∃ v1:Option V,σ=[some (.ref x),v1]) ⟨aJ.refl _,rfl,none,rfl⟩ (fun i σ H2 _ h=>SqL.of (h.1 D1 _ hd1)) ?_ ?_
  ·rintro i y σ H2 hi ⟨s2,hfn,v1,rfl⟩
   obtain⟨pc,hpc',rfl⟩:∃ pc,ev[i]?=some pc∧T pc=y:=by rw[al] at hi;exact bi.mp hi
   obtain⟨fn,fy⟩:=sY hfn hpc';refine⟨_,rfl,_,rfl,(by show 1<=sizeLine;omega),fun p3 hp3=>?_⟩;have t3:=aL (o:=.lst ([pc].map T)) hp3;refine⟨x,tp,p3,n,ms,[pc],rfl,hW.on (s1.trans (s2.trans t3)),hok,.inl (SqL.of aE),fun H4 s4=>?_⟩;refine⟨_,rfl,_,rfl,_,rfl,?_⟩;by_cases h0:exc ms [pc]=0
   ·refine itN (by rw[decide_eq_true h0];exact ak) ?_
    exact⟨s2.trans (t3.trans s4),fn (by rw[decide_eq_true h0];rfl),some (T pc),rfl⟩
   ·refine itP (by rw[decide_eq_false h0];rfl) ?_
    refine⟨_,rfl,(by show 1<=sizeLine;omega),fun b hb=>?_⟩;have t5:=aL (o:=.tup ([pc].map T)) hb;refine⟨(by show 2<=sizeLine;omega),fun pp hpp=>?_⟩;have t6:=aL (o:=.tup [T Pt,.ref b]) hpp;exact q ev _ _ _ hpc (.inl ⟨pc,fy (by rw[decide_eq_false h0];rfl),rfl⟩) ⟨pp,b,rfl,aE,t6 b _ aE⟩ (s1.trans (s2.trans (t3.trans (s4.trans (t5.trans t6)))))
  ·rintro σ H2 ⟨s2,hfn,v1,rfl⟩
   rw[aR,da] at hfn;refine⟨_,rfl,x,tp,n,ms,rfl,hW.on (s1.trans s2),hok,fun eu r v H3 hpu hr' hv s3=>?_⟩;obtain rfl:=hpu.uniq hpc (ik ms);exact q eu r v H3 hpc (.inr ⟨hfn,hr'⟩) hv (s1.trans (s2.trans s3))
theorem iK {ls ev:List (List Nat)}(hn:ev.Nodup)(hm:∀ z∈ev,IsP ls z):ev.length<=2*ls.length:=by
 have:=Hg.kP (ms:=ls.map beg++ls.map fun l=>l.drop 1) hn fun z hz=>by
  obtain⟨l,hl,h⟩:=hm z hz;rcases h with rfl | rfl
  ·exact bj.mpr (.inl (au.mpr ⟨l,hl,rfl⟩))
  ·exact bj.mpr (.inr (au.mpr ⟨l,hl,rfl⟩))
 rw[aq,aR,aR] at this;omega
def abv (ms ev:List (List Nat)):List (List Nat):=ev.filter fun z=>decide (0<exc ms [z])
def Wm (ms ev:List (List Nat))(r:Pap):Prop:=(2<=exc ms (abv ms ev)∧r=some (Pt,abv ms ev))∨(exc ms (abv ms ev)<2∧Nl ms ev r)
def yN (C:Addr):Sp:=fun vs H Q _=>∃ (x tp:Addr) (n:Nat) (ms:List (List Nat)),vs=[.ref x]∧gR C H x tp n ms∧gG ms n ∧
 ∀ (ev:List (List Nat)) (r:Pap) (v:V) (H':Hp),Pcs ms ev->Wm ms ev r->Np H' v r->aJ H H'->Q v H'
theorem vI {f:Addr}{fd:FuncData}(F:Fun K "why_no_row" "why_no_row" dU f fd)(tt:Txt K mg ad)(C_pieces:Cal P w K mg base (CX1 P w) "pieces" 2 ["web"] (gZ ad.Web))(C_excess:Cal P w K mg base (CX1 P w) "excess" 2 ["web", "some"] (kO K ad.Web))(C_why_apart:Cal P w K mg base (CX1 P w) "why_apart" 4 ["web"] (xM ad.Web)) :
  bQ P w K mg base (CX1 P w) 5 f fd ["web"] (yN ad.Web):=by
 refine F.okN lY (fun vs H Q E h=>?_) (fun cdv A outer s H vs Q E hr h=>?_)
 ·obtain⟨x,tp,n,ms,rfl,_⟩:=h
  rfl
 ·obtain⟨x,tp,n,ms,rfl,hW,hok,q⟩:=h
  have hs:sizeLine=16777216:=sizeLine_eq;refine⟨_,(aB (fN (i:=1) qL rfl (cF (aI C_pieces hr aO (aA (pv 0) aC))) (fun cl C s' H' fp=>(aW qC (aI C_excess hr aO (aA (pv 1) (aA (eA (aA (pv 0) aC)) aC))) aG (aY _))) (fun cl C s' H' fp=>(pv 0)) lY.nd rfl rfl)
   (aB (bW (aW Rq (aI C_excess hr aO (aA (pv 0) (aA (pv 1) aC))) aG (aY _)) (aF (aV (uN (aA (bT [117,110,101,118,101,110] (by decide +kernel)) (aA (cW jB (by rfl) tt.b_tuple (by decide +kernel) (aA (pv 1) aC)) aC))))) bA)
   (aF (aV (aI C_why_apart hr aO (aA (pv 0) aC)))))),?_⟩
  (try rw[cM]);(try rw[cxK1])
  refine⟨_,rfl,x,tp,n,ms,rfl,hW,hok,fun D1 ev H1 hD1 s1 hd1 hpw hpn hpm=>?_⟩;have hpc:Pcs ms ev:=⟨hpw,hpn,hpm⟩;have hel:=iK hpn fun z hz=>(hpm z).mp hz
  have h64:=hok.2.1;refine⟨D1,rfl,⟨_,SqL.of hd1⟩,?_⟩;refine kZ (fun v=>decide (0<exc ms [unT v])) (fun v=>v) (cI (SqL.of hd1)) (by rw[aR];omega) (fun v H2 hv s2 N hN=>?_) (fun v H2 hv hp s2 N hN=>?_) fun D2 H2 hD2 s2 hd2=>?_
  ·obtain⟨l,hl,rfl⟩:=au.mp hv
   refine⟨_,rfl,_,rfl,(by show 1<=sizeLine;omega),fun p3 hp3=>?_⟩;have t3:=aL (o:=.lst ([l].map T)) hp3;refine⟨x,tp,p3,n,ms,[l],rfl,hW.on (s1.trans (s2.trans t3)),hok,.inl (SqL.of aE),fun H4 s4=>?_⟩;have z:=hN H4 (t3.trans s4);rw[dS] at z;exact⟨_,_,rfl,rfl,_,rfl,z⟩
  ·exact⟨_,rfl,hN H2 (aJ.refl _)⟩
  rw[show (ev.map T).filter (fun v=>decide (0<exc ms [unT v]))=(abv ms ev).map T from dX (p:=fun l=>decide (0<exc ms [l])) ev,lA] at hd2;have s12:=s1.trans s2;refine⟨_,rfl,_,rfl,x,tp,D2,n,ms,abv ms ev,rfl,hW.on s12,hok,.inl (SqL.of hd2),fun H3 s3=>?_⟩;have s13:=s12.trans s3;refine⟨_,_,rfl,rfl,_,rfl,?_⟩;by_cases h2:2<=exc ms (abv ms ev)
  ·refine itP (decide_eq_true h2) ?_
   refine⟨_,rfl,D2,_,rfl,.inl ⟨SqL.of (s3 D2 _ hd2),fun b hb=>?_⟩⟩;have t5:=aL (o:=.tup ((abv ms ev).map T)) hb;refine⟨(by show 2<=sizeLine;omega),fun pp hpp=>?_⟩;have t6:=aL (o:=.tup [T Pt,.ref b]) hpp;exact q ev _ _ _ hpc (.inl ⟨h2,rfl⟩) ⟨pp,b,rfl,aE,t6 b _ aE⟩ (s13.trans (t5.trans t6))
  ·refine itN (fun z=>h2 (of_decide_eq_true z)) ?_
   refine⟨_,rfl,x,tp,n,ms,rfl,hW.on s13,hok,fun eu r v H4 hpu hr' hv s4=>?_⟩;obtain rfl:=hpu.uniq hpc (ik ms);exact q eu r v H4 hpc (.inr ⟨by omega,hr'⟩) hv (s13.trans s4)
abbrev Tr (p:List Nat)(ls:List (List Nat))(q:List Nat):Prop:=Hg.Tr beg En p ls q
theorem Ew {p q:List Nat}{ls ms so:List (List Nat)}(h:Tr p ls q)(hp:ms.Perm ls):exc ms so=(if p∈so then 1 else 0)-(if q∈so then 1 else 0):=by
 rw[Mg hp]
 have:=Hg.Tr.exc (fun z=>decide (z∈so)) h
 unfold exc
 simpa using this
theorem Te {p q:List Nat}{ls ms:List (List Nat)}(h:Tr p ls q)(hp:ms.Perm ls){z0 z:List Nat}(h0:IsP ms z0)(h1:IsP ms z):Rc ms z0 z:=by
 have key:∀ z,IsP ms z->Rc ms p z:=fun z hz=>by
  obtain⟨l,hl,g⟩:=hz
  have:=Hg.Tr.rch (ms:=ms) (p:=p) h (fun w hw=>hp.mem_iff.mpr hw) .self l (hp.mem_iff.mp hl)
  rcases g with rfl | rfl
  ·exact this.1
  ·exact this.2
 exact (key z0 h0).symm.trans (key z h1)
theorem So {ms:List (List Nat)}{p z:List Nat}(hp:IsP ms p)(h:Rc ms p z):IsP ms z:=by
 rcases Hg.Cv h with rfl | g
 ·exact hp
 ·rcases bj.mp g with g | g
  ·obtain⟨l,hl,e⟩:=au.mp g
   exact⟨l,hl,.inl e.symm⟩
  ·obtain⟨l,hl,e⟩:=au.mp g
   exact⟨l,hl,.inr e.symm⟩
theorem wT {p q:List Nat}{ls ms ev:List (List Nat)}{r:Pap}(h:Tr p ls q)(hp:ms.Perm ls)(hc:Pcs ms ev)(hw:Nl ms ev r):r=none:=by
 obtain⟨z0,so,a1,a2,a3,a4,rfl⟩:=hw;have hz0:=(hc.2.2 z0).mp (ay a1);rw[if_pos];refine ((dh a3 hc.2.1).mpr fun z=>?_).length_eq;rw[a4,hc.2.2];exact⟨fun g=>So hz0 g,fun g=>Te h hp hz0 g⟩
theorem Jz {p:List Nat}{ls ms ev:List (List Nat)}{r:Pap}(h:Tr p ls p)(hp:ms.Perm ls)(hc:Pcs ms ev)(hw:Vf ms ev r):r=none:=by
 rcases hw with ⟨z,hz,_⟩ | ⟨_,hw⟩
 ·have:=r6 hz
  rw[Ew h hp,Int.sub_self] at this;exact absurd this (by decide)
 ·exact wT h hp hc hw
theorem vW {p q:List Nat}{ls ms ev:List (List Nat)}{r:Pap}(h:Tr p ls q)(hp:ms.Perm ls)(hc:Pcs ms ev)(hw:Wm ms ev r):r=none:=by
 rcases hw with ⟨g,_⟩ | ⟨_,hw⟩
 ·rw[Ew h hp] at g
  split at g <;> split at g <;> omega
 ·exact wT h hp hc hw
def sO (us ms:List (List Nat))(p q:List Nat):Prop:=Hg.Tr Wd.beg Wd.fin p us q∧us.Perm ms
def yS (C:Addr):Sp:=fun vs H Q _=>∃ (x tp:Addr) (n:Nat) (ms us:List (List Nat)) (p q:List Nat),vs=[.ref x]∧gR C H x tp n ms∧gG ms n∧sO us ms p q∧∀ (v:V) (H':Hp),aJ H H'->(p=q->v = .non)->(p≠q->∃ d,v = .ref d∧H' d=some (.tup [T p,T q]))->Q v H'
theorem xO {us ms:List (List Nat)}{p q z:List Nat}(h:sO us ms p q):exc ms [z]=(if p=z then 1 else 0)-(if q=z then 1 else 0):=by
 have:=Ew (so:=[z]) (show Tr p us q from h.1) h.2.symm
 rw[this];simp only [az]
theorem qY {us ms:List (List Nat)}{p q:List Nat}(h:sO us ms p q)(hne:ms≠[]):IsP ms p∧IsP ms q:=by
 have hu:us≠[]:=fun z=>hne (mw.mp (z▸h.2).symm)
 constructor
 ·cases us with
  | nil=>exact absurd rfl hu
  | cons w us=>exact⟨w,h.2.mem_iff.mp (ar ..),.inl h.1.1.symm⟩
 ·have e:=Wd.Tr.lst h.1 hu
  have hm:Wd.lst us∈us:=by
   unfold Wd.lst;have h0:=cj.mpr hu;rw[aj,aa (by omega)];exact cz (by omega)
  exact⟨_,h.2.mem_iff.mp hm,.inr e⟩
theorem Bq {f:Addr}{fd:FuncData}(F:Fun K "row_ends" "row_ends" eQ f fd)(tt:Txt K mg ad)(C_why_no_row:Cal P w K mg base (CX1 P w) "why_no_row" 5 ["web"] (yN ad.Web))(C_why_no_ring:Cal P w K mg base (CX1 P w) "why_no_ring" 5 ["web"] (Cr ad.Web))(C_pieces:Cal P w K mg base (CX1 P w) "pieces" 2 ["web"] (gZ ad.Web))(C_excess:Cal P w K mg base (CX1 P w) "excess" 2 ["web", "some"] (kO K ad.Web)) :
  bQ P w K mg base (CX1 P w) 6 f fd ["web"] (yS ad.Web):=by
 refine F.okN iU (fun vs H Q E h=>?_) (fun cdv A outer s H vs Q E hr h=>?_)
 ·obtain⟨x,tp,n,ms,us,p,q',rfl,_⟩:=h
  rfl
 ·obtain⟨x,tp,n,ms,us,p,q',rfl,hW,hok,hway,q⟩:=h
  have hs:sizeLine=16777216:=sizeLine_eq;have htr:Tr p us q':=hway.1;have hpm:=hway.2.symm;have h64:=hok.2.1;refine⟨_,(aB (aH (i:=1) iU.nd rfl (Or.inl rfl) (aI C_why_no_row hr aO (aA (pv 0) aC)))
   (aB (bW (mE (Pf (pv 1))) (aF Kr) bA)
   (aB (bW (mE (yP (aI C_why_no_ring hr aO (aA (pv 0) aC)))) (aF (aV Ff)) bA)
   (aB (fN (i:=2) uW rfl (cF (aI C_pieces hr aO (aA (pv 0) aC))) (fun cl C s' H' fp=>(aW qC (aI C_excess hr aO (aA (pv 1) (aA (eA (aA (pv 0) aC)) aC))) aG (aY _))) (fun cl C s' H' fp=>(pv 0)) iU.nd rfl rfl)
   (aB (fN (i:=3) vH rfl (cF (aI C_pieces hr aO (aA (pv 0) aC))) (fun cl C s' H' fp=>(aW lU (aI C_excess hr aO (aA (pv 1) (aA (eA (aA (pv 0) aC)) aC))) aG (aY _))) (fun cl C s' H' fp=>(pv 0)) iU.nd rfl rfl)
   (aF (aV (uN (aA (cU cK (pv 2) aG (fun _ _=>rfl)) (aA (cU cK (pv 3) aG (fun _ _=>rfl)) aC)))))))))),?_⟩
  (try rw[cM]);(try rw[cxK1])
  refine⟨_,rfl,x,tp,n,ms,rfl,hW,hok,fun ev r v H1 hpc hwy hv s1=>?_⟩;obtain rfl:=vW htr hpm hpc hwy;obtain rfl:v = .non:=hv;refine⟨_,rfl,_,rfl,oF ?_⟩;refine⟨_,rfl,x,tp,n,ms,rfl,hW.on s1,hok,fun ev2 r2 v2 H2 hpc2 hwy2 hv2 s2=>?_⟩;have s12:=s1.trans s2;by_cases hpq:p=q'
  ·subst hpq
   obtain rfl:=Jz htr hpm hpc2 hwy2;obtain rfl:v2 = .non:=hv2;refine⟨_,rfl,rW ?_⟩;exact q .non H2 s12 (fun _=>rfl) (fun z=>absurd rfl z)
  ·obtain⟨hp1,hq1⟩:=qY hway hok.1
   have hv3:v2≠.non:=fun z=>by
    have hex:¬ exc ms [p]=0:=by rw[xO hway,if_pos rfl,if_neg (fun z=>hpq z.symm)];decide
    rcases hwy2 with ⟨y,_,rfl⟩ | ⟨g,_⟩
    ·obtain⟨p1,b1,e1,_⟩:=hv2
     rw[z] at e1;cases e1
    ·have:=qc.mp g p ((hpc2.2.2 p).mpr hp1)
     rw[decide_eq_false hex] at this;exact this rfl
   refine⟨_,rfl,itN (by rw[decide_eq_false hv3];exact ak) ?_⟩;have key:∀ (ev:List (List Nat)) (z:List Nat) (g:List Nat->Bool),ev.Nodup->z∈ev->(∀ y∈ev,g y=true↔y=z)->ev.filter g=[z]:=fun ev z g h1 h2 h3=>Wd.uF h1 h2 h3
   refine⟨_,rfl,x,tp,n,ms,rfl,hW.on s12,hok,fun D1 e1 H3 hD1 s3 hd3 hpw hpn hpm1=>?_⟩;have hel:=iK hpn fun z hz=>(hpm1 z).mp hz
   have s13:=s12.trans s3;refine⟨D1,rfl,⟨_,SqL.of hd3⟩,?_⟩;refine kZ (fun v=>decide (0<exc ms [unT v])) (fun v=>v) (cI (SqL.of hd3)) (by rw[aR];omega) (fun v G hv sg N hN=>?_) (fun v G hv hp sg N hN=>?_) fun D2 H4 hD2 s4 hd4=>?_
   ·obtain⟨l,hl,rfl⟩:=au.mp hv
    refine⟨_,rfl,_,rfl,(by show 1<=sizeLine;omega),fun p3 hp3=>?_⟩;have t3:=aL (o:=.lst ([l].map T)) hp3;refine⟨x,tp,p3,n,ms,[l],rfl,hW.on (s13.trans (sg.trans t3)),hok,.inl (SqL.of aE),fun H4 s4=>?_⟩;have z:=hN H4 (t3.trans s4);rw[dS] at z;exact⟨_,_,rfl,rfl,_,rfl,z⟩
   ·exact⟨_,rfl,hN G (aJ.refl _)⟩
   rw[show (e1.map T).filter (fun v=>decide (0<exc ms [unT v]))=(e1.filter fun l=>decide (0<exc ms [l])).map T from dX (p:=fun l=>decide (0<exc ms [l])) e1,lA,key e1 p _ hpn ((hpm1 p).mpr hp1) (fun y _=>by
    rw[decide_eq_true_iff,xO hway];by_cases h1:p=y
    ·subst h1
     rw[if_pos rfl,if_neg (fun z=>hpq z.symm)];simp
    ·rw[if_neg h1]
     exact⟨fun z=>by split at z <;> omega,fun z=>absurd z.symm h1⟩)] at hd4
   have s14:=s13.trans s4;refine⟨_,rfl,x,tp,n,ms,rfl,hW.on s14,hok,fun D3 e2 H5 hD3 s5 hd5 hpw2 hpn2 hpm2=>?_⟩;have hel2:=iK hpn2 fun z hz=>(hpm2 z).mp hz
   have s15:=s14.trans s5;refine⟨D3,rfl,⟨_,SqL.of hd5⟩,?_⟩;refine kZ (fun v=>decide (exc ms [unT v]<0)) (fun v=>v) (cI (SqL.of hd5)) (by rw[aR];omega) (fun v G hv sg N hN=>?_) (fun v G hv hp sg N hN=>?_) fun D4 H6 hD4 s6 hd6=>?_
   ·obtain⟨l,hl,rfl⟩:=au.mp hv
    refine⟨_,rfl,_,rfl,(by show 1<=sizeLine;omega),fun p3 hp3=>?_⟩;have t3:=aL (o:=.lst ([l].map T)) hp3;refine⟨x,tp,p3,n,ms,[l],rfl,hW.on (s15.trans (sg.trans t3)),hok,.inl (SqL.of aE),fun H4 s4=>?_⟩;have z:=hN H4 (t3.trans s4);rw[dS] at z;exact⟨_,_,rfl,rfl,_,rfl,z⟩
   ·exact⟨_,rfl,hN G (aJ.refl _)⟩
   rw[show (e2.map T).filter (fun v=>decide (exc ms [unT v]<0))=(e2.filter fun l=>decide (exc ms [l]<0)).map T from dX (p:=fun l=>decide (exc ms [l]<0)) e2,lA,key e2 q' _ hpn2 ((hpm2 q').mpr hq1) (fun y _=>by
    rw[decide_eq_true_iff,xO hway];by_cases h1:q'=y
    ·subst h1
     rw[if_pos rfl,if_neg hpq];simp
    ·rw[if_neg h1]
     exact⟨fun z=>by split at z <;> omega,fun z=>absurd z.symm h1⟩)] at hd6
   refine⟨_,rfl,D2,_,_,_,rfl,rfl,SqL.of (s6 D2 _ (s5 D2 _ hd4)),cD (j:=0) rfl,_,rfl,D4,_,_,_,rfl,rfl,SqL.of hd6,cD (j:=0) rfl,(by show 2<=sizeLine;omega),fun d hd=>?_⟩;exact q _ _ (s15.trans (s6.trans (aL hd))) (fun z=>absurd z hpq) (fun _=>⟨d,rfl,aE⟩)
def zJ (C:Addr):Sp:=fun vs H Q _=>∃ (x tp:Addr) (t:List Nat) (n:Nat) (ms:List (List Nat)),vs=[.ref x,T t]∧gR C H x tp n ms∧ms.Pairwise (fun a b=>¬ b<a)∧(t.length<=60+n∧1<=n∧n<=1000) ∧
 ∀ (b:Bool) (H':Hp),aJ H H'->(b=true↔(Wd.fS t n).Perm ms)->Q (.bl b) H'
theorem Je {f:Addr}{fd:FuncData}(F:Fun K "is_row" "is_row" jK f fd)(tt:Txt K mg ad)(C_windows:Cal P w K mg base (CX1 P w) "windows" 2 ["text", "length", "ring"] Fu) :
  bQ P w K mg base (CX1 P w) 3 f fd ["web", "text"] (zJ ad.Web):=by
 refine F.okN Iu (fun vs H Q E h=>?_) (fun cdv A outer s H vs Q E hr h=>?_)
 ·obtain⟨x,tp,t,n,ms,rfl,_⟩:=h
  rfl
 ·obtain⟨x,tp,t,n,ms,rfl,hW,hsm,hn,q⟩:=h
  have hs:sizeLine=16777216:=sizeLine_eq;have hu:=h9 (fV hr);obtain⟨⟨dx,hx⟩,htp⟩:=id hW;refine⟨_,(aF (aV (iV (rN hu) (aN eX (by rfl) tt.b_sorted df (aA (aI C_windows hr aO (aA (pv 1) (aA (fF (pv 0) rfl) (aA qH aC)))) aC)) (cW hX (by rfl) tt.b_list (by decide +kernel) (aA (fF (pv 0) rfl) aC)) (aY _)))),?_⟩
  (try rw[cM]);(try rw[cxK1])
  refine⟨_,rfl,_,rfl,x,ad.Web,dx,_,_,rfl,hx,tt.cl_Web,tt.na_Web_length,Di _ _,t,n,false,rfl,⟨by omega,by omega,by omega⟩,fun D H1 hD s1 hd=>?_⟩;have hw:Wd.win t n false=Wd.fS t n:=if_neg (by decide);rw[hw] at hd;refine⟨D,_,rfl,SqL.of hd,(by rw[Wd.Ac];omega),fun qs D2 hD2 hp2 hw2=>?_⟩;have s2:aJ H1 (upd H1 D2 (.lst (qs.map T))):=fun b o e=>by rw[aK (aM e hD2)];exact e
  have s12:=s1.trans s2;refine⟨_,rfl,x,ad.Web,dx,_,_,rfl,s12 x _ hx,tt.cl_Web,tt.na_Web_words,gO _ _,tp,_,rfl,.inr (SqT.of (s12 tp _ htp)),fun l hl=>?_⟩;have s3:aJ (upd H1 D2 (.lst (qs.map T))) (upd (upd H1 D2 (.lst (qs.map T))) l (.lst (ms.map T))):=fun b o e=>by rw[aK (aM e hl)];exact e
  refine⟨D2,l,qs,ms,rfl,rfl,SqL.of (s3 D2 _ aE),SqL.of aE,?_⟩;refine q _ _ (s12.trans s3) ⟨fun z=>?_,fun z=>decide_eq_true ?_⟩
  ·have e:qs=ms:=of_decide_eq_true z
   subst e;exact hp2.symm
  ·exact Wd.gW (hp2.trans z) hw2 hsm
def nKs (ls:List (List Nat))(f:List Nat->Nat):List (Key×V):=ls.map fun t=>(ca (tx t),V.int (f t:Nat))
theorem qW {ls:List (List Nat)}{f:List Nat->Nat}:(nKs ls f).length=ls.length:=by unfold nKs;rw[aR]
theorem Ak {ls:List (List Nat)}{f:List Nat->Nat}:(nKs ls f).map (·.1)=ls.map fun t=>ca (tx t):=by unfold nKs;rw[br];rfl
theorem wP {ls:List (List Nat)}{f g:List Nat->Nat}(h:∀ t∈ls,f t=g t):nKs ls f=nKs ls g:=bv fun t ht=>by rw[h t ht]
theorem rJ {t:List Nat}{f:List Nat->Nat}:∀ {ls:List (List Nat)},eO (nKs ls f) (ca (tx t))=if t∈ls then some (V.int (f t:Nat)) else none
 | []=>by simp[nKs,eO]
 | l::ls=>by
  have ih:=@rJ t f ls;by_cases h:l=t
  ·subst h
   rw[if_pos (ar ..)];exact gS rfl
  ·show eO ((ca (tx l),V.int (f l:Nat))::nKs ls f) _=_
   rw[fY (fun z=>h (fZ (g0 z))),ih];by_cases h2:t∈ls
   ·rw[if_pos h2,if_pos (ah _ h2)]
   ·rw[if_neg h2,if_neg (fun z=>(aw.mp z).elim (fun e=>h e.symm) h2)]
theorem Qa {ls:List (List Nat)}{f:List Nat->Nat}{t:List Nat}(h:t∉ls):fT (nKs ls f) (ca (tx t)) (V.int (f t:Nat))=nKs (ls++[t]) f:=by
 rw[Nj _ (by rw[rJ,if_neg h])];unfold nKs;rw[bn];rfl
theorem Qi {ls:List (List Nat)}{f:List Nat->Nat}{t:List Nat}{v:Nat}(h:t∈ls):fT (nKs ls f) (ca (tx t)) (V.int (v:Nat))=nKs ls fun x=>if x=t then v else f x:=by
 have ha:((nKs ls f).any fun kv=>decide (kv.1=ca (tx t)))=true:=nc.mpr ⟨_,au.mpr ⟨t,h,rfl⟩,decide_eq_true rfl⟩;unfold fT;rw[if_pos ha];unfold nKs;rw[br];refine bv fun x hx=>?_
 show (if (ca (tx x):Key)=ca (tx t) then ((ca (tx x):Key),V.int (v:Nat)) else (ca (tx x),V.int (f x:Nat)))=_;by_cases e:x=t
 ·rw[if_pos (by rw[e])];show _=(_,V.int ((if x=t then v else f x:Nat):Int));rw[if_pos e]
 ·rw[if_neg (fun z=>e (fZ (g0 z)))];show _=(_,V.int ((if x=t then v else f x:Nat):Int));rw[if_neg e]
def nD (C:Addr):Sp:=fun vs H Q _=>∃ (x tp:Addr) (n:Nat) (ms us:List (List Nat)) (p q m0:List Nat),vs=[.ref x]∧gR C H x tp n ms∧gG ms n∧ms[0]?=some m0∧sO us ms p q∧∀ (D:Addr) (ps:List (List Nat)) (H':Hp),H D=none->aJ H H'->H' D=some (.dK (nKs ps (Dt.rcF ms p q)))->ps.Pairwise (· < ·)->(∀ z,z∈ps↔IsP ms z)->Q (.ref D) H'
theorem vK {f:Addr}{fd:FuncData}(F:Fun K "row_counts" "row_counts" eY f fd)(tt:Txt K mg ad)(C_ring_count:Cal P w K mg base (CX1 P w) "ring_count" 6 ["web"] (qZ ad.Web))(C_pieces:Cal P w K mg base (CX1 P w) "pieces" 2 ["web"] (gZ ad.Web))(C_outs:Cal P w K mg base (CX1 P w) "outs" 2 ["web", "piece"] (Dv ad.Web))
  (C_why_no_row:Cal P w K mg base (CX1 P w) "why_no_row" 5 ["web"] (yN ad.Web)) (C_row_ends:Cal P w K mg base (CX1 P w) "row_ends" 6 ["web"] (yS ad.Web)) (C_ways_on:Cal P w K mg base (CX1 P w) "ways_on" 5 ["words", "one", "other"] (iM K)) :
  bQ P w K mg base (CX1 P w) 7 f fd ["web"] (nD ad.Web):=by
 refine F.okN fJ (fun vs H Q E h=>?_) (fun cdv A outer s H vs Q E hr h=>?_)
 ·obtain⟨x,tp,n,ms,us,p,q',m0,rfl,_⟩:=h
  rfl
 ·obtain⟨x,tp,n,ms,us,p,q',m0,rfl,hW,hok,hm0,hway,q⟩:=h
  have hs:sizeLine=16777216:=sizeLine_eq;obtain⟨hne,h60,hn,hxs,hnd⟩:=id hok;have hm0m:=ay hm0;have htr:Tr p us q':=hway.1;have hpm:=hway.2.symm;refine⟨_,(aB (aH (i:=1) fJ.nd rfl (Or.inl rfl) (aI C_ring_count hr aO (aA (pv 0) aC)))
   (aB (aH (i:=2) fJ.nd rfl (Or.inl rfl) Aa)
   (aB (dW PassesOwn.never rfl (cF (aI C_pieces hr aO (aA (pv 0) aC))) (cG (i:=3) fJ.nd rfl (Or.inl rfl)) (aF (rB (fV hr) (pv 2) (pv 3) (aU xT (pv 1) (aN aX (by rfl) tt.b_len bh (aA (aI C_outs hr aO (aA (pv 0) (aA (pv 3) aC))) aC))) rfl)))
   (aB (bW (PW.pt (Mi (aW eT (pv 1) aG (aY _)) (Gs (mE (yP (aI C_why_no_row hr aO (aA (pv 0) aC))))))) (aB (aH (i:=4) fJ.nd rfl (Or.inl rfl) (aI C_row_ends hr aO (aA (pv 0) aC)))
   (aF (rB (fV hr) (pv 2) (cU oA (pv 4) aG (fun _ _=>rfl)) (aI C_ways_on hr aO (aA (fF (pv 0) rfl) (aA (cU oA (pv 4) aG (fun _ _=>rfl)) (aA (cU oA (pv 4) aG (fun _ _=>rfl)) aC)))) rfl))) bA)
   (aF (aV (pv 2))))))),?_⟩
  (try rw[cM]);(try rw[cxK1])
  refine⟨_,rfl,x,tp,n,ms,m0,rfl,hW,hok,hm0,fun H1 s1=>?_⟩;generalize hR:Dt.eN (Dt.rm ms m0) (Wd.fin m0) (Wd.beg m0)=R;refine fun D hD=>?_
  have sD:=aL (o:=.dK []) hD;refine⟨_,rfl,x,tp,n,ms,rfl,hW.on (s1.trans sD),hok,fun L ps H3 hL s3 hl3 hpw hpn hpm3=>?_⟩;have hel:=iK hpn fun z hz=>(hpm3 z).mp hz
  refine⟨L,rfl,⟨_,SqL.of hl3⟩,?_⟩;have hDH:H D=none:=iW s1 hD;have hLD:L≠D:=fun z=>by rw[z,aE] at hL;cases hL
  refine fH (K:=K) (a:=L) (xs:=ps.map T) (fun i σ G=>aJ H G∧G L=some (.lst (ps.map T))∧G D=some (.dK (nKs (ps.take i) fun t=>R*(Bo ms t).length))∧∃ v3:Option V,σ=[some (.ref x),some (.int (R:Nat)),some (.ref D),v3,none]) ⟨s1.trans (sD.trans s3),hl3,s3 D _ aE,none,rfl⟩ (fun i σ G _ h=>SqL.of h.2.1) ?_ ?_
  ·rintro i y σ G hi ⟨sG,hLG,hDG,v3,rfl⟩
   obtain⟨t,hti,rfl⟩:∃ t,ps[i]?=some t∧T t=y:=by rw[al] at hi;exact bi.mp hi
   have htk:ps.take (i+1)=ps.take i++[t]:=by rw[cn,hti];rfl
   have hout:(Bo ms t).length<=60:=a5 (db ..) h60;have htn:t∉ps.take i:=fun z=>by
    have h1:(ps.take (i+1)).Nodup:=hpn.sublist (i9 ..);rw[htk,dw] at h1;exact h1.2.2 t z t (az.mpr rfl) rfl
   refine⟨_,rfl,_,rfl,_,rfl,x,tp,n,ms,t,rfl,hW.on sG,hok,fun Do Go hDo so hdo=>?_⟩;refine⟨Do,_,rfl,.inl (SqL.of hdo),_,_,rfl,rfl,.inr ⟨by rw[aR];omega,by rw[aR];omega⟩,?_⟩;have e1:V.int (((R:Nat):Int)*((((Bo ms t).map T).length:Nat):Int))=V.int ((R*(Bo ms t).length:Nat):Int):=by rw[aR,eg]
   refine⟨_,rfl,_,rfl,D,upd Go D (.dK (nKs (ps.take (i+1)) fun t=>R*(Bo ms t).length)),rfl,?put,?_⟩
   case put =>
    show sB Go D (kV (ca (tx t))) (V.int (((R:Nat):Int)*((((Bo ms t).map T).length:Nat):Int))) _;rw[e1,htk,<- Qa (f:=fun t=>R*(Bo ms t).length) htn];exact sB.k (so D _ hDG) (by rw[qW,cb];omega)
   refine⟨fun b o e=>by rw[aK (aM e hDH)];exact so b o (sG b o e),by rw[aK hLD];exact so L _ hLG,aE,some (T t),rfl⟩
  ·rintro σ G ⟨sG,hLG,hDG,v3,rfl⟩
   rw[aR,da] at hDG;have hasc:=Dt.Co hpn hpw;refine⟨_,rfl,_,rfl,_,rfl,_,rfl,?_⟩;by_cases hpq:p=q'
   ·subst hpq
    have hRp:R≠0:=fun z=>by have:=Dt.Ij hnd hm0m hway.2 hway.1;rw[hR,z] at this;cases this
    refine itN (fun z=>hRp (by have:=of_decide_eq_true z;omega)) ?_;refine itN (fun z=>by cases z) ?_;refine⟨_,rfl,?_⟩;rw[wP (g:=Dt.rcF ms p p) fun t _=>by rw[Dt.Fn hnd hm0m,hR,c9];rfl] at hDG;exact q D ps G hDH sG hDG hasc hpm3
   ·have hR0:=Dt.tY hnd hm0m hway.2 hway.1 hpq
    rw[hR] at hR0;subst hR0;refine itP (decide_eq_true rfl) ?_;refine⟨_,rfl,x,tp,n,ms,rfl,hW.on sG,hok,fun ev r v H5 hpc hwy hv s5=>?_⟩;obtain rfl:=vW htr hpm hpc hwy;obtain rfl:v = .non:=hv;refine⟨_,rfl,?_⟩;refine itP rfl ?_;refine⟨_,rfl,x,tp,n,ms,us,p,q',rfl,hW.on (sG.trans s5),hok,hway,fun v6 H6 s6 _ h6=>?_⟩;obtain⟨d6,rfl,hd6⟩:=h6 hpq;have s56:=s5.trans s6;have sG6:=sG.trans s56;obtain⟨⟨dx,hx⟩,htp⟩:=hW.on sG6;refine⟨_,rfl,x,ad.Web,dx,_,_,rfl,hx,tt.cl_Web,tt.na_Web_words,gO _ _,_,rfl,d6,_,_,_,rfl,rfl,SqT.of hd6,cD (j:=0) rfl,_,rfl,d6,_,_,_,rfl,rfl,SqT.of hd6,cD (j:=1) rfl,tp,ms,p,q',rfl,.inr (SqT.of htp),⟨hnd,h60,fun y hy=>by have:=(hxs y hy).1;omega⟩,fun H7 s7=>?_⟩;have hp1:=(hpm3 p).mpr (qY hway hne).1;refine⟨_,rfl,_,rfl,d6,_,_,_,rfl,rfl,SqT.of (s7 d6 _ hd6),cD (j:=0) rfl,D,_,rfl,sB.k (k:=ca (tx p)) (s7 D _ (s56 D _ hDG)) (by rw[qW];omega),?_⟩;rw[Qi hp1];refine⟨_,rfl,?_⟩;refine q D ps _ hDH (fun b o e=>by rw[aK (aM e hDH)];exact s7 b o (sG6 b o e)) ?_ hasc hpm3;rw[aE,wP (g:=Dt.rcF ms p q') fun t _=>?_];by_cases ht:t=p
    ·rw[if_pos ht,ht,Dt.Rt hpq]
    ·rw[if_neg ht,Dt.Am hnd hway.2 hway.1 hpq ht,nk]
theorem Aw {ls:List (List Nat)}{f:List Nat->Nat}:(nKs ls f).map (·.2)=(ls.map fun t=>((f t:Nat):Int)).map V.int:=by
 unfold nKs;rw[br,br];rfl
theorem mZ {f:List Nat->Nat}:∀ ls:List (List Nat),(ls.map fun t=>((f t:Nat):Int)).sum=((ls.map f).sum:Nat)
 | []=>rfl
 | l::ls=>by rw[am,am,cg,cg,mZ ls,gi]
theorem Bc {ps qs ms:List (List Nat)}(h1:ps.Pairwise (· < ·))(h2:qs.Pairwise (· < ·))(m1:∀ z,z∈ps↔IsP ms z)(m2:∀ z,z∈qs↔IsP ms z):qs=ps:=by
 have nd:∀ {l:List (List Nat)},l.Pairwise (· < ·)->l.Nodup:=fun h=>h.imp fun z e=>absurd (e▸z) (ge _)
 have ns:∀ {l:List (List Nat)},l.Pairwise (· < ·)->l.Pairwise fun a b=>¬ b<a:=fun h=>h.imp fun z e=>ge _ (List.lt_trans z e)
 exact Wd.gW ((dh (nd h2) (nd h1)).mpr fun z=>by rw[m1,m2]) (ns h2) (ns h1)
def zP (C:Addr)(H:Hp)(x tp:Addr)(n:Nat)(ms us:List (List Nat))(p q m0:List Nat)(ps:List (List Nat)):Prop:=gR C H x tp n ms∧gG ms n∧ms[0]?=some m0∧sO us ms p q∧ps.Pairwise (· < ·)∧∀ z,z∈ps↔IsP ms z
theorem zP.on {C:Addr}{H H':Hp}{x tp:Addr}{n:Nat}{ms us ps:List (List Nat)}{p q m0:List Nat}(h:zP C H x tp n ms us p q m0 ps)(s:aJ H H'):zP C H' x tp n ms us p q m0 ps:=⟨h.1.on s,h.2⟩
def mG (ms:List (List Nat))(p q:List Nat)(ps:List (List Nat)):Nat:=(ps.map (Dt.rcF ms p q)).sum
def mK (C:Addr):Sp:=fun vs H Q _=>∃ (x tp:Addr) (n:Nat) (ms us:List (List Nat)) (p q m0:List Nat),vs=[.ref x]∧gR C H x tp n ms∧gG ms n∧ms[0]?=some m0∧sO us ms p q∧∀ (ps:List (List Nat)) (H':Hp),ps.Pairwise (· < ·)->(∀ z,z∈ps↔IsP ms z)->aJ H H'->Q (.int (mG ms p q ps:Nat)) H'
theorem wY {f:Addr}{fd:FuncData}(F:Fun K "row_count" "row_count" fR f fd)(tt:Txt K mg ad)(C_row_counts:Cal P w K mg base (CX1 P w) "row_counts" 7 ["web"] (nD ad.Web)):bQ P w K mg base (CX1 P w) 8 f fd ["web"] (mK ad.Web):=by
 refine F.okN yZ (fun vs H Q E h=>?_) (fun cdv A outer s H vs Q E hr h=>?_)
 ·obtain⟨x,tp,n,ms,us,p,q',m0,rfl,_⟩:=h
  rfl
 ·obtain⟨x,tp,n,ms,us,p,q',m0,rfl,hW,hok,hm0,hway,q⟩:=h
  refine⟨_,(aF (aV (aN (vY rfl) (by rfl) tt.b_sum i8 (aA (Bi (aI C_row_counts hr aO (aA (pv 0) aC))) aC)))),?_⟩
  (try rw[cM]);(try rw[cxK1])
  refine⟨_,rfl,x,tp,n,ms,us,p,q',m0,rfl,hW,hok,hm0,hway,fun D qs H1 hD s1 hd hqs hqm=>?_⟩;refine⟨D,_,rfl,hd,fun v hv=>?_⟩;have sv:=aL (o:=Vw v D) hv;refine⟨v,D,_,_,rfl,aE,sv D _ hd,Aw,?_⟩;rw[mZ];exact q qs _ hqs hqm (s1.trans sv)
def tS (C:Addr):Sp:=fun vs H Q _=>∃ (x tp:Addr) (n:Nat) (ms us:List (List Nat)) (p q m0:List Nat) (ps:List (List Nat)) (t:List Nat),vs=[.ref x,T t]∧zP C H x tp n ms us p q m0 ps∧∀ H',aJ H H'->Q (T (Dt.reF p q t)) H'
theorem Dn {f:Addr}{fd:FuncData}(F:Fun K "row_end" "row_end" iH f fd)(tt:Txt K mg ad)(C_row_ends:Cal P w K mg base (CX1 P w) "row_ends" 6 ["web"] (yS ad.Web)):bQ P w K mg base (CX1 P w) 7 f fd ["web", "piece"] (tS ad.Web):=by
 refine F.okN tU (fun vs H Q E h=>?_) (fun cdv A outer s H vs Q E hr h=>?_)
 ·obtain⟨x,tp,n,ms,us,p,q',m0,ps,t,rfl,_⟩:=h
  rfl
 ·obtain⟨x,tp,n,ms,us,p,q',m0,ps,t,rfl,⟨hW,hok,hm0,hway,hps,hpm⟩,q⟩:=h
  refine⟨_,(aB (aH (i:=2) tU.nd rfl (Or.inl rfl) (aI C_row_ends hr aO (aA (pv 0) aC)))
   (aB (bW (mE (yP (pv 2))) (aF (aV (pv 1))) bA)
   (aF (aV (cU oA (pv 2) aG (fun _ _=>rfl)))))),?_⟩
  (try rw[cM]);(try rw[cxK1])
  refine⟨_,rfl,x,tp,n,ms,us,p,q',rfl,hW,hok,hway,fun v H1 s1 h1 h2=>?_⟩;refine⟨_,rfl,?_⟩;by_cases hpq:p=q'
  ·obtain rfl:=h1 hpq
   refine⟨_,rfl,rW ?_⟩;refine⟨_,rfl,?_⟩;have z:=q H1 s1;rw[<- hpq,Dt.Gm] at z;exact z
  ·obtain⟨d,rfl,hd⟩:=h2 hpq
   refine⟨_,rfl,oF ?_⟩;refine⟨_,rfl,d,_,_,_,rfl,rfl,SqT.of hd,cD (j:=1) rfl,?_⟩;have z:=q H1 s1;rw[Dt.Lc hpq] at z;exact z
def wZ (C:Addr)(ad:Adr):Sp:=fun vs H Q E=>∃ (x tp:Addr) (n:Nat) (ms us:List (List Nat)) (p q m0:List Nat) (ps:List (List Nat)) (k:Int),vs=[.ref x,.int k]∧zP C H x tp n ms us p q m0 ps∧(¬ (0<=k∧k<((mG ms p q ps:Nat):Int))->∀ H',aJ H H'->E (.ref ad.NoSuch) none H') ∧
 (∀ (j:Nat) (r:List Nat×List (List Nat)),k=(j:Int)->(Dt.rws ms p q ps)[j]?=some r->∀ H',aJ H H'->Q (T (Dt.rX r)) H')
theorem Kh {f:Addr}{fd:FuncData}(F:Fun K "row_by" "row_by" jF f fd)(tt:Txt K mg ad)(C_row_counts:Cal P w K mg base (CX1 P w) "row_counts" 7 ["web"] (nD ad.Web))(C_way_by:Cal P w K mg base (CX1 P w) "way_by" 6 ["words", "one", "other", "number"] (yB K))(C_row_end:Cal P w K mg base (CX1 P w) "row_end" 7 ["web", "piece"] (tS ad.Web)) :
  bQ P w K mg base (CX1 P w) 8 f fd ["web", "number"] (wZ ad.Web ad):=by
 refine F.okX jI (fun vs H Q E h=>?_) (fun cdv A outer s H vs Q E hr h=>?_)
 ·obtain⟨x,tp,n,ms,us,p,q',m0,ps,k,rfl,_⟩:=h
  rfl
 ·obtain⟨x,tp,n,ms,us,p,q',m0,ps,k,rfl,hRw,xn,q⟩:=h
  obtain⟨hW,hok,hm0,hway,hps,hpm⟩:=id hRw;have hs:sizeLine=16777216:=sizeLine_eq;obtain⟨hne,h60,hn,hxs,hnd⟩:=id hok;refine⟨_,(aB (aH (i:=2) jI.nd rfl (Or.inl rfl) (aI C_row_counts hr aO (aA (pv 0) aC)))
   (aB (bW (PW.pt (pZ (aW lU (pv 1) aG (aY _)) (mO (aW Rq (pv 1) (aN (vY rfl) (by rfl) tt.b_sum i8 (aA (Bi (pv 2)) aC)) (aY _))))) (aF (eM (E:=fun cls H'=>E cls none H') tt.x_NoSuch rfl (fun _ _ _ _ _ _ _ I hx q=>iJ I hx q) (aA (bT [116,104,101,32,119,101,98,32,104,97,115,32,110,111,32,114,111,119,32,111,102,32,116,104,105,115,32,110,117,109,98,101,114] (by decide +kernel)) aC))) bA)
   (aB (aH (i:=3) jI.nd rfl (Or.inl rfl) (pv 1))
   (aB (dW PassesOwn.leaving rfl (yK (pv 2)) (cG (i:=4) jI.nd rfl (Or.inl rfl)) (aB (bW (aW lU (pv 3) (jY (fV hr) (pv 2) (pv 4) (fun _ _=>rfl)) (aY _)) (aF uC) bA)
   (aF (aH (i:=3) jI.nd rfl (Or.inl rfl) (aU eK (pv 3) (jY (fV hr) (pv 2) (pv 4) (fun _ _=>rfl)))))))
   (aF (aV (aI C_way_by hr aO (aA (fF (pv 0) rfl) (aA (pv 4) (aA (aI C_row_end hr aO (aA (pv 0) (aA (pv 4) aC))) (aA (pv 3) aC))))))))))),?_⟩
  (try rw[cM]);(try rw[cxK1])
  refine⟨_,rfl,x,tp,n,ms,us,p,q',m0,rfl,hW,hok,hm0,hway,fun D qs H1 hD s1 hd hqs hqm=>?_⟩;obtain rfl:=Bc hps hqs hpm hqm;refine⟨_,rfl,_,_,rfl,rfl,_,rfl,?_⟩;by_cases hk0:k<0
  ·refine itP (decide_eq_true hk0) ?_
   refine itP rfl ?_;exact⟨(by show 1<=sizeLine;omega),xn (fun z=>by omega) H1 s1⟩
  ·refine itN (fun z=>hk0 (of_decide_eq_true z)) ?_
   refine⟨_,rfl,_,rfl,D,_,rfl,hd,fun v hv=>?_⟩;have sv:=aL (o:=Vw v D) hv;refine⟨v,D,_,_,rfl,aE,sv D _ hd,Aw,?_⟩;rw[mZ];refine⟨_,_,rfl,rfl,_,rfl,?_⟩;have s2:=s1.trans sv;have hd2:=sv D _ hd;generalize upd H1 v (Vw v D)=H2 at s2 hd2;by_cases hk1:k≥((mG ms p q' qs:Nat):Int)
   ·refine itP (decide_eq_true hk1) ?_
    exact⟨(by show 1<=sizeLine;omega),xn (fun z=>by omega) H2 s2⟩
   ·refine itN (fun z=>hk1 (of_decide_eq_true z)) ?_
    obtain⟨j,hj⟩:∃ j:Nat,k=(j:Int):=⟨k.toNat,by omega⟩;subst hj;have hjl:j<(Dt.rws ms p q' qs).length:=by
     rw[Dt.Hd]
     have:j<mG ms p q' qs:=by omega
     exact this
    obtain⟨r,hr'⟩:∃ r,(Dt.rws ms p q' qs)[j]?=some r:=⟨_,aa hjl⟩;refine⟨_,rfl,?_⟩;refine⟨_,rfl,D,_,rfl,hd2,fun o=>?_⟩;have hfr:upd H2 D (.frz o (.dK (nKs qs (Dt.rcF ms p q')))) D=some (.frz o (.dK (nKs qs (Dt.rcF ms p q')))):=aE;have sF:aJ H (upd H2 D (.frz o (.dK (nKs qs (Dt.rcF ms p q'))))):=fun b o' e=>by rw[aK (aM e hD)];exact s2 b o' e
    generalize upd H2 D (.frz o (.dK (nKs qs (Dt.rcF ms p q'))))=HF at hfr sF;have hget:∀ {t:List Nat},t∈qs->nL HF D (T t) (some (V.int (Dt.rcF ms p q' t:Nat))):=fun {t} ht=>.inl ⟨_,ca (tx t),.inr ⟨o,hfr⟩,rfl,by rw[rJ,if_pos ht]⟩
    refine Bu (fun i σ G=>G=HF∧∃ (a':Nat) (v4:Option V),(Dt.rws ms p q' (qs.drop i))[a']?=some r∧σ=[some (.ref x),some (.int (j:Nat)),some (.ref D),some (.int (a':Nat)),v4]) ⟨rfl,j,none,hr',rfl⟩ (fun i σ G _ h=>by rw[h.1];exact hfr) ?_ ?_
    ·rintro i kv σ G hi ⟨rfl,a',v4,ha',rfl⟩
     have hik:((nKs qs (Dt.rcF ms p q')).map (·.1))[i]?=some kv.1:=by rw[al,hi];rfl
     rw[Ak,al] at hik;obtain⟨t,hti,hkt⟩:=bi.mp hik;rw[show kV kv.1=T t by rw[<- hkt];rfl];have htm:=ay hti;have hdrop:qs.drop i=t::qs.drop (i+1):=by
      obtain⟨i1,i2⟩:=ag.mp hti;rw[ft i1,i2]
     rw[hdrop,Dt.Gp] at ha';have htl:t.length<=1000:=by
      obtain⟨l,hl,e | e⟩:=(hqm t).mp htm
      ·have:=(hxs l hl).1;rw[e];show (l.take (l.length-1)).length<=_;rw[cb];omega
      ·have:=(hxs l hl).1;rw[e,b9];omega
     refine⟨_,rfl,_,rfl,_,rfl,D,_,rfl,hget htm,_,_,rfl,rfl,_,rfl,?_⟩;by_cases hlt:a'<Dt.rcF ms p q' t
     ·refine itP (decide_eq_true (by omega)) ?_
      rw[if_pos hlt] at ha';obtain⟨ws,hws,hr2⟩:=bi.mp ha';obtain⟨⟨dx,hx⟩,htp⟩:=hW.on sF;refine⟨_,rfl,x,ad.Web,dx,_,_,rfl,hx,tt.cl_Web,tt.na_Web_words,gO _ _,_,rfl,_,rfl,_,rfl,x,tp,n,ms,us,p,q',m0,qs,t,rfl,hRw.on sF,fun H5 s5=>?_⟩;refine⟨_,rfl,tp,ms,ws,t,Dt.reF p q' t,a',rfl,.inr (SqT.of (s5 tp _ htp)),⟨hnd,h60,htl,fun y hy=>by have:=(hxs y hy).1;omega⟩,hws,fun H6 s6=>?_⟩;have z:=q j r rfl hr' H6 (sF.trans (s5.trans s6));rw[<- hr2] at z;exact z
     ·refine itN (fun z=>hlt (by have:=of_decide_eq_true z;omega)) ?_
      rw[if_neg hlt] at ha';refine⟨_,rfl,_,rfl,_,rfl,D,_,rfl,hget htm,_,_,rfl,rfl,?_⟩;refine⟨rfl,a'-Dt.rcF ms p q' t,some (T t),ha',?_⟩;rw[Int.ofNat_sub (by omega)];rfl
    ·rintro σ G ⟨rfl,a',v4,ha',rfl⟩
     rw[qW,ng] at ha';cases ha'
def Da (C:Addr)(ad:Adr):Sp:=fun vs H Q E=>∃ (x tp:Addr) (n:Nat) (ms us:List (List Nat)) (p q m0:List Nat) (ps:List (List Nat)) (t:List Nat),vs=[.ref x,T t]∧zP C H x tp n ms us p q m0 ps∧ms.Pairwise (fun a b=>¬ b<a)∧t.length<=60+n∧(¬ (Wd.fS t n).Perm ms->∀ H',aJ H H'->E (.ref ad.NotOne) none H') ∧
 ((Wd.fS t n).Perm ms->∃ (y:List Nat) (ws:List (List Nat)),t=Dt.rX (y,ws)∧ws.Perm ms∧Hg.Tr Wd.beg Wd.fin y ws (Dt.reF p q y)∧∀ H',aJ H H'->Q (.int (Dt.rn ms p q ps y ws:Nat)) H')
theorem vD {f:Addr}{fd:FuncData}(F:Fun K "row_number" "row_number" dY f fd)(tt:Txt K mg ad)(C_is_row:Cal P w K mg base (CX1 P w) "is_row" 3 ["web", "text"] (zJ ad.Web))(C_row_counts:Cal P w K mg base (CX1 P w) "row_counts" 7 ["web"] (nD ad.Web))(C_way_number:Cal P w K mg base (CX1 P w) "way_number" 6 ["words", "order", "other"] (uB K))(C_windows:Cal P w K mg base (CX1 P w) "windows" 2 ["text", "length", "ring"] Fu) :
  bQ P w K mg base (CX1 P w) 8 f fd ["web", "row"] (Da ad.Web ad):=by
 refine F.okX gP (fun vs H Q E h=>?_) (fun cdv A outer s H vs Q E hr h=>?_)
 ·obtain⟨x,tp,n,ms,us,p,q',m0,ps,t,rfl,_⟩:=h
  rfl
 ·obtain⟨x,tp,n,ms,us,p,q',m0,ps,t,rfl,hRw,hsm,htl,xn,q⟩:=h
  obtain⟨hW,hok,hm0,hway,hps,hpm⟩:=id hRw;have hs:sizeLine=16777216:=sizeLine_eq;obtain⟨hne,h60,hn,hxs,hnd⟩:=id hok;have hpos:=cj.mpr hne;refine⟨_,(aB (bW (mH (kW (aI C_is_row hr aO (aA (pv 0) (aA (pv 1) aC))))) (aF (eM (E:=fun cls H'=>E cls none H') tt.x_NotOne rfl (fun _ _ _ _ _ _ _ I hx q=>iJ I hx q) (aA (bT [116,104,101,32,116,101,120,116,32,105,115,32,110,111,32,114,111,119,32,111,102,32,116,104,101,32,119,101,98] (by decide +kernel)) aC))) bA)
   (aB (aH (i:=2) gP.nd rfl (Or.inr rfl) (aI C_row_counts hr aO (aA (pv 0) aC)))
   (aB (aH (i:=3) gP.nd rfl (Or.inr rfl) (bL mV (pv 1) cP (bK (aU eK (fF (pv 0) rfl) aG))))
   (aB (aH (i:=4) gP.nd rfl (Or.inl rfl) (aN (wK rfl) (by rfl) tt.b_sum i8 (aA (tQ qV rfl (yK (pv 2)) (fun cl C s' H' fp=>(aW Gd (pv 0) (pv 4) (aY _))) (fun cl C s' H' fp=>(jY (fV hr) (pv 3) (pv 0) (fun _ _=>rfl)))) aC)))
   (aF (aV (aU eB (pv 4) (aI C_way_number hr aO (aA (fF (pv 0) rfl) (aA (aI C_windows hr aO (aA (pv 1) (aA (fF (pv 0) rfl) (aA qH aC)))) (aA (bL mV (pv 1) (bK (aN aX (by rfl) tt.b_len bh (aA (fF (pv 0) rfl) aC))) cP) aC))))))))))),?_⟩
  (try rw[cM]);(try rw[cxK1])
  refine⟨_,rfl,_,rfl,x,tp,t,n,ms,rfl,hW,hsm,⟨by omega,by omega,by omega⟩,fun b G1 s1 hb=>⟨_,rfl,?_⟩⟩
  cases b with
  | false =>
   refine rW ?_;exact⟨(by show 1<=sizeLine;omega),xn (fun z=>by have:=hb.mpr z;cases this) G1 s1⟩
  | true =>
   refine oF ?_;obtain⟨y,ws,htx,hwp,hwt,q⟩:=q (hb.mp rfl);have hwl:=hwp.length_eq;have hyl:y.length=n-1:=by
    cases ws with
    | nil=>rw[gj] at hwl;omega
    | cons w0 wr =>
     have h1:=(hxs w0 (hwp.mem_iff.mp (ar ..))).1;rw[<- hwt.1,Wd.Qv,h1]
   obtain⟨hwin,htail⟩:=Wd.tN (n:=n) (by omega) ws.length rfl hwt hyl fun w hw=>(hxs w (hwp.mem_iff.mp hw)).1
   have htx':y++ws.map Wd.dQ=t:=htx.symm;rw[htx'] at hwin htail;have htlen:t.length=n-1+ms.length:=by rw[<- htx',aq,aR,hyl,hwl]
   have hty:t.take (n-1)=y:=by rw[<- htx',<- hyl,sd];rfl
   refine⟨_,rfl,x,tp,n,ms,us,p,q',m0,rfl,hW.on s1,hok,hm0,hway,fun D qs H1 hD s2 hd hqs hqm=>?_⟩;obtain rfl:=Bc hps hqs hpm hqm;have s12:=s1.trans s2;have hDH:H D=none:=iW s1 hD;obtain⟨⟨dx,hx⟩,htp⟩:=hW.on s12;refine⟨_,rfl,_,rfl,x,ad.Web,dx,_,_,rfl,hx,tt.cl_Web,tt.na_Web_length,Di _ _,_,_,rfl,rfl,_,rfl,_,rfl,(by omega),?_⟩;rw[show gC t none (some (((n:Nat):Int)-1))=y by
    rw[show ((n:Nat):Int)-1=((n-1:Nat):Int) by omega,Gf (by omega)];exact hty]
   refine⟨_,rfl,D,_,rfl,hd,fun o=>?_⟩;have hfr:upd H1 D (.frz o (.dK (nKs qs (Dt.rcF ms p q')))) D=some (.frz o (.dK (nKs qs (Dt.rcF ms p q')))):=aE;have sF:aJ H (upd H1 D (.frz o (.dK (nKs qs (Dt.rcF ms p q'))))):=fun b o' e=>by rw[aK (aM e hDH)];exact s12 b o' e
   generalize upd H1 D (.frz o (.dK (nKs qs (Dt.rcF ms p q'))))=HF at hfr sF;have hqn:qs.Nodup:=hqs.imp fun z e=>absurd (e▸z) (ge _)
   have hel:=iK hqn fun z hz=>(hqm z).mp hz
   have hkey:∀ {kv:Key×V},kv∈nKs qs (Dt.rcF ms p q')->∃ t∈qs,kv.1=ca (tx t):=fun {kv} h=>by
    obtain⟨t,ht,e⟩:=au.mp h;exact⟨t,ht,by rw[<- e]⟩
   refine Ef (fun k=>decide (unT (kV k)<y)) (fun k=>V.int (Dt.rcF ms p q' (unT (kV k)):Nat)) hfr (by rw[qW];omega) (fun kv G hkv sg N hN=>?_) (fun kv G hkv _ sg N hN=>?_) fun Dc Hc hDc sc hdc=>?_
   ·obtain⟨t',ht',e⟩:=hkey hkv
    have z:=hN G (aJ.refl _);rw[e,show kV (ca (tx t'))=T t' from rfl,dS] at z;rw[e];exact⟨_,rfl,_,rfl,_,rfl,_,rfl,_,rfl,z⟩
   ·obtain⟨t',ht',e⟩:=hkey hkv
    have z:=hN G (aJ.refl _);rw[e,show kV (ca (tx t'))=T t' from rfl,dS] at z;rw[e];exact⟨_,rfl,_,rfl,D,_,rfl,.inl ⟨_,ca (tx t'),.inr ⟨o,sg D _ hfr⟩,rfl,by rw[rJ,if_pos ht']⟩,z⟩
   have hlist:(((nKs qs (Dt.rcF ms p q')).map (·.1)).filter fun k=>decide (unT (kV k)<y)).map (fun k=>V.int (Dt.rcF ms p q' (unT (kV k)):Nat))=((qs.filter fun t=>decide (t<y)).map fun t=>((Dt.rcF ms p q' t:Nat):Int)).map V.int:=by
    rw[Ak];have key:∀ l:List (List Nat),((l.map fun t=>(ca (tx t):Key)).filter fun k=>decide (unT (kV k)<y)).map (fun k=>V.int (Dt.rcF ms p q' (unT (kV k)):Nat))=((l.filter fun t=>decide (t<y)).map fun t=>((Dt.rcF ms p q' t:Nat):Int)).map V.int:=by
     intro l
     induction l with
     | nil=>rfl
     | cons a l ih =>
      rw[am,cu,cu,show unT (kV (ca (tx a)))=a from dS a];by_cases h:a<y
      ·rw[if_pos (decide_eq_true h),if_pos (decide_eq_true h),am,am,am,ih,show unT (kV (ca (tx a)))=a from dS a]
      ·rw[if_neg (fun z=>h (of_decide_eq_true z)),if_neg (fun z=>h (of_decide_eq_true z)),ih]
    exact key qs
   rw[hlist] at hdc;refine⟨Dc,_,rfl,SqL.of hdc,?_⟩;rw[mZ];have sFc:=sF.trans sc;obtain⟨⟨dx3,hx3⟩,htp3⟩:=hW.on sFc;refine⟨_,rfl,_,rfl,x,ad.Web,dx3,_,_,rfl,hx3,tt.cl_Web,tt.na_Web_words,gO _ _,_,rfl,_,rfl,x,ad.Web,dx3,_,_,rfl,hx3,tt.cl_Web,tt.na_Web_length,Di _ _,t,n,false,rfl,⟨by omega,by omega,by omega⟩,fun D4 G4 hD4 s4 hd4=>?_⟩;rw[show Wd.win t n false=Wd.fS t n from if_neg (by decide),hwin] at hd4;refine⟨_,rfl,_,rfl,x,ad.Web,dx3,_,_,rfl,s4 x _ hx3,tt.cl_Web,tt.na_Web_words,gO _ _,tp,_,rfl,.inr (SqT.of (s4 tp _ htp3)),_,rfl,_,rfl,(by omega),?_⟩;rw[show gC t (some (((ms.map T).length:Nat):Int)) none=Dt.reF p q' y by
    rw[aR,jE (by omega),<- hwl];exact htail]
   refine⟨tp,D4,ms,ws,Dt.reF p q' y,rfl,.inr (SqT.of (s4 tp _ htp3)),SqL.of hd4,⟨hnd,h60,fun z hz=>by have:=(hxs z hz).1;omega⟩,hwp,fun G5 s5=>?_⟩;refine⟨_,_,rfl,rfl,?_⟩;have z:=q G5 (sFc.trans (s4.trans s5));unfold Dt.rn at z;rw[gi] at z;exact z
def rO (K:ae):Sp:=fun vs H Q _=>∃ (a:Addr) (ns:List Int) (k:Nat),vs=[.ref a,.int (k:Nat)]∧SqL K H a (ns.map V.int)∧Q (.int (ns.getD k 0)) H
theorem qO {f:Addr}{fd:FuncData}(F:Fun K "_law_cell_at" "_law_cell_at" dG f fd)(tt:Txt K mg ad):bQ P w K mg base (CX1 P w) 1 f fd ["script", "k"] (rO K):=by
 refine F.okN qR (fun vs H Q E h=>?_) (fun cdv A outer s H vs Q E hr h=>?_)
 ·obtain⟨a,ns,k,rfl,_⟩:=h
  rfl
 ·obtain⟨a,ns,k,rfl,hS,q⟩:=h
  refine⟨_,(aB (bW (aW lU (pv 1) (aN aX (by rfl) tt.b_len bh (aA (pv 0) aC)) (aY _)) (aF (aV (cU cK (pv 0) (pv 1) (fun _ _=>rfl)))) bA)
   (aF (aV aG))),?_⟩
  (try rw[cM]);(try rw[cxK1])
  refine⟨_,rfl,_,rfl,a,_,rfl,.inl hS,_,_,rfl,rfl,_,rfl,?_⟩;rw[aR];refine kS (fun h0=>?_) (fun h0=>?_)
  ·have h1:k<ns.length:=by have:=of_decide_eq_true h0;omega
   rw[aj,aa h1] at q;exact⟨_,rfl,_,rfl,a,_,_,_,rfl,rfl,hS,cD (by rw[al,aa h1];rfl),q⟩
  ·have h1:¬ k<ns.length:=fun z=>h0 (decide_eq_true (by omega))
   rw[aj,cp (by omega)] at q;exact q
theorem Au (h:List Nat)(c:Nat):beg (h++[c])=h:=by
 unfold beg;rw[aq,b7,l7,sd];rfl
theorem Op {s:Int}(h0:0<=s)(h1:s<6):∃ c,atI [97,98,99,100,101,102] s=some c∧97<=c∧c<103:=by
 obtain⟨m,hm⟩:=Int.eq_ofNat_of_zero_le h0;have hm':s=(m:Int):=hm;subst hm';exact⟨97+m,cD (Xr (by omega)),by omega,by omega⟩
def WL (ls:List (List Nat))(n:Nat):Prop:=(∀ x∈ls,x.length=n∧Abc x)∧ls.Nodup
theorem WL.sub {ls ls':List (List Nat)}{n:Nat}(h:WL ls n)(s:ls'.Sublist ls):WL ls' n:=⟨fun x hx=>h.1 x (s.subset hx),h.2.sublist s⟩
theorem WL.snoc {ls:List (List Nat)}{n:Nat}{t:List Nat}(h:WL ls n)(ht:t.length=n∧Abc t)(hn:¬ t∈ls):WL (ls++[t]) n:=by
 refine⟨fun x hx=>?_,dw.mpr ⟨h.2,by simp,fun a ha b hb ee=>hn ?_⟩⟩
 ·rcases bj.mp hx with z | z
  ·exact h.1 x z
  ·have e:x=t:=by simpa using z
   subst e;exact ht
 ·have hb':b=t:=by simpa using hb
  rw[<- hb',<- ee];exact ha
theorem Ly {k c:Nat}(h:c∈([97,98,99,100,101,102]:List Nat).take k):97<=c∧c<103:=by
 have:=pe h
 simp at this;omega
def xN (K:ae):Sp:=fun vs H Q _=>∃ (c:Addr) (ns:List Int) (k:Nat) (f0:List Nat),vs=[.ref c,.int (k:Nat),T f0]∧SqL K H c (ns.map V.int)∧(ns.length<=63∧k<=6∧f0.length<=10)∧Abc f0 ∧
 ∀ (D:Addr) (ls:List (List Nat)) (H':Hp),aJ H H'->H' D=some (.lst (ls.map T))->WL ls (f0.length+1)->ls.length<=ns.length->(∃ q0,Tr f0 ls q0)->Q (.ref D) H'
theorem zN {f:Addr}{fd:FuncData}(F:Fun K "_law_walk" "_law_walk" eJ f fd)(tt:Txt K mg ad):bQ P w K mg base (CX1 P w) 1 f fd ["cells", "kinds", "first"] (xN K):=by
 refine F.okN eC (fun vs H Q E h=>?_) (fun cdv A outer s H vs Q E hr h=>?_)
 ·obtain⟨c,ns,k,f0,rfl,_⟩:=h
  rfl
 ·obtain⟨c,ns,k,f0,rfl,hS,hb,hf0,q⟩:=h
  have hs:sizeLine=16777216:=sizeLine_eq;have hnl:(ns.map V.int).length=ns.length:=aR ..;refine⟨_,(aB (aH (i:=3) eC.nd rfl (Or.inr rfl) (eA aC))
   (aB (aH (i:=4) eC.nd rfl (Or.inr rfl) (pv 2))
   (aB (dW PassesOwn.never rfl (cF (pv 0)) (cG (i:=5) eC.nd rfl (Or.inl rfl)) (aB (fN (i:=6) rQ rfl (Km (bL mV (bT [97,98,99,100,101,102] (by decide +kernel)) cP (bK (pv 1)))) (fun cl C s' H' fp=>(aW (uR K rfl) (aU iP (pv 5) (pv 0)) (pv 4) (by with_unfolding_all rfl))) (fun cl C s' H' fp=>(aU iP (pv 5) (pv 0))) eC.nd rfl rfl)
   (aB (bW (aW eT (aN aX (by rfl) tt.b_len bh (aA (pv 6) aC)) aG (aY _)) (aF uC) bA)
   (aB (aH (i:=7) eC.nd rfl (Or.inl rfl) (cU cK (pv 6) (aU eL (pv 5) (aN aX (by rfl) tt.b_len bh (aA (pv 6) aC))) (fun _ _=>rfl)))
   (aB (iY (Az gg jx jy jM (pv 3) (aA (pv 7) aC)))
   (aF (aH (i:=4) eC.nd rfl (Or.inr rfl) (bL mV (pv 7) (bK aG) cP))))))))
   (aF (aV (pv 3)))))),?_⟩
  (try rw[cM]);(try rw[cxK1])
  refine⟨(by show 0<=sizeLine;omega),fun D hD=>?_⟩;have s0:=aL (o:=.lst []) hD;refine⟨_,rfl,?_⟩;refine⟨_,rfl,c,rfl,⟨_,s0.seq hS⟩,?_⟩;refine fH (K:=K) (a:=c) (xs:=ns.map V.int) (fun i σ H2=>aJ H H2∧∃ (ls:List (List Nat)) (hh:List Nat) (v5 v6 v7:Option V),H2 D=some (.lst (ls.map T))∧WL ls (f0.length+1)∧ls.length<=i∧hh.length=f0.length∧Abc hh∧Tr f0 ls hh∧σ=[some (.ref c),some (.int (k:Nat)),some (T f0),some (.ref D),some (T hh),v5,v6,v7])
   ⟨s0,[],f0,none,none,none,aE,⟨fun x hx=>(by simp at hx),gu⟩,af _,rfl,hf0,rfl,rfl⟩ (fun i σ H2 _ h=>h.1.seq hS) ?_ ?_
  ·rintro i y σ H2 hi ⟨s2,ls,hh,v5,v6,v7,hd,hwl,hl,hhl,hab,htr,rfl⟩
   have hi63:i<ns.length:=by have:=(ag.mp hi).1;omega
   obtain⟨z,rfl⟩:∃ z,y=V.int z:=by
    obtain⟨z,_,e⟩:=au.mp (ay hi);exact⟨z,e.symm⟩
   refine⟨_,rfl,_,rfl,_,rfl,(by show 6<=sizeLine;omega),?_⟩;have ec:gC [97,98,99,100,101,102] none (some ((k:Nat):Int))=([97,98,99,100,101,102]:List Nat).take k:=Iy _ _;rw[ec];refine⟨_,rfl,?_⟩;generalize hsg:([97,98,99,100,101,102]:List Nat).take k=sg;have hsgl:sg.length<=6:=by rw[<- hsg,cb];exact qy _ _
   have hsga:∀ c∈sg,97<=c∧c<103:=fun c hc=>Ly (by rw[hsg];exact hc)
   refine kZ (vs:=(sg.map fun c=>[c]).map T) (fun v=>!decide (hh++unT v∈ls)) (fun v=>T (hh++unT v)) Fa (by rw[aR,aR];omega) (fun v H3 hv s3 N hN=>?_) (fun v H3 hv hp s3 N hN=>?_) fun D1 H3 hD1 s3 hd3=>?_
   ·obtain⟨l,hl',rfl⟩:=au.mp hv
    obtain⟨ch,hch,rfl⟩:=au.mp hl';have g:=hN H3 (aJ.refl _);rw[dS] at g;refine⟨_,rfl,_,rfl,_,rfl,_,rfl,(by show hh.length+1<=sizeLine;omega),_,rfl,D,_,rfl,.inl (SqL.of (s3 D _ hd)),rfl,jN ls,_,rfl,?_⟩;show N (!inV (T (hh++[ch])) (ls.map T)) H3;rw[vZ];exact g
   ·obtain⟨l,hl',rfl⟩:=au.mp hv
    obtain⟨ch,hch,rfl⟩:=au.mp hl';have g:=hN H3 (aJ.refl _);rw[dS] at g;exact⟨_,rfl,_,rfl,_,rfl,_,rfl,(by show hh.length+1<=sizeLine;omega),g⟩
   obtain⟨fr,hfr,hfm⟩:∃ fr:List (List Nat),(((sg.map fun c=>[c]).map T).filter (fun v=>!decide (hh++unT v∈ls))).map (fun v=>T (hh++unT v))=fr.map T∧∀ t∈fr,(t.length=f0.length+1∧Abc t)∧¬ t∈ls∧beg t=hh:=by
    refine⟨((sg.map fun c=>[c]).filter fun l=>!decide (hh++l∈ls)).map fun l=>hh++l,?_,fun t ht=>?_⟩
    ·rw[show ((sg.map fun c=>[c]).map T).filter (fun v=>!decide (hh++unT v∈ls))=((sg.map fun c=>[c]).filter fun l=>!decide (hh++l∈ls)).map T from dX (p:=fun l=>!decide (hh++l∈ls)) _,lJ (f:=fun l=>T (hh++l)),br]
     rfl
    ·obtain⟨l,hl',rfl⟩:=au.mp ht
     obtain⟨h1,h2⟩:=d8.mp hl';obtain⟨ch,hch,rfl⟩:=au.mp h1;refine⟨⟨by rw[aq,hhl];rfl,fun d hd'=>?_⟩,(fun z=>by rw[decide_eq_true z] at h2;cases h2),Au hh ch⟩;rcases bj.mp hd' with g | g
     ·exact hab d g
     ·have e:d=ch:=by simpa using g
      subst e;exact hsga d hch
   rw[hfr] at hd3;have hfl:(fr.map T).length=fr.length:=aR ..;refine⟨_,rfl,D1,_,rfl,.inl (SqL.of hd3),_,rfl,_,rfl,_,rfl,?_⟩;rw[hfl];refine kS (fun h0=>?_) (fun h0=>?_)
   ·exact⟨_,rfl,q D ls H3 (s2.trans s3) (s3 D _ hd) hwl (by omega) ⟨_,htr⟩⟩
   have hf0:0<fr.length:=by
    rcases qe fr.length with g | g
    ·exact absurd (decide_eq_true (by rw[g];rfl)) h0
    ·exact g
   have z0:=dc z (show ((fr.length:Nat):Int)≠0 by omega);have z1:=ci z (show (0:Int)<((fr.length:Nat):Int) by omega);obtain⟨m,hm,hml⟩:∃ m:Nat,z % ((fr.length:Nat):Int)=(m:Int)∧m<fr.length:=⟨(z % ((fr.length:Nat):Int)).toNat,by omega,by omega⟩;obtain⟨t,ht⟩:∃ t,fr[m]?=some t:=⟨_,aa hml⟩;obtain⟨htn,htl,htb⟩:=hfm t (ay ht);refine⟨_,rfl,_,rfl,_,rfl,D1,_,rfl,.inl (SqL.of hd3),_,_,rfl,rfl,(by show (0:Int)<(((fr.map T).length:Nat):Int);omega),D1,_,_,_,rfl,rfl,SqL.of hd3,(by rw[hfl,hm];exact cD (by rw[al,ht];rfl)),?_⟩;refine⟨_,rfl,.inl ⟨rfl,_,SqL.of (s3 D _ hd)⟩,_,rfl,D,_,_,rfl,rfl,s3 D _ hd,(by rw[aR];omega),?_⟩;have ed:gC t (some 1) none=t.drop 1:=jE (k:=1) (by omega);refine⟨_,rfl,_,rfl,_,rfl,(by omega),?_⟩;refine⟨(fun b o e=>by rw[aK (aM e hD)];exact (s2.trans s3) b o e),ls++[t],t.drop 1,some (.int z),some (.ref D1),some (T t),by rw[bn];exact aE,hwl.snoc htn htl,by rw[aq,b7];omega,by rw[b9];omega,fun d hd'=>htn.2 d (pd hd'),Hg.Tr.snoc (by rw[htb];exact htr),?_⟩;rw[<- ed];rfl
  ·rintro σ H2 ⟨s2,ls,hh,v5,v6,v7,hd,hwl,hl,hhl,hab,htr,rfl⟩
   exact⟨_,rfl,q D ls H2 s2 hd hwl (by omega) ⟨_,htr⟩⟩
theorem rC (c:Nat):∀ n:Nat,Wd.rep n [c]=kf n c
 | 0=>rfl
 | n+1=>by
  have ih:=rC c n;unfold Wd.rep at ih ⊢;rw[jq,kh,ih,jq];rfl
theorem Jc (c:Nat)(n:Nat):beg (Wd.rep n [c])=(Wd.rep n [c]).drop 1:=by
 unfold beg;rw[rC,ol,List.take_replicate,List.drop_replicate,eh (by omega)]
theorem vP {ns:List Int}{lo hi:Option Int}:∃ ms:List Int,fK (ns.map V.int) lo hi=ms.map V.int:=by
 refine⟨(ns.drop (HT.sIx ns.length 0 lo)).take (HT.sIx ns.length ns.length hi-HT.sIx ns.length 0 lo),?_⟩;rw[fK,aR,lc,jw]
theorem mU {xs:List V}{a b:Nat}:(fK xs (some (a:Int)) (some (b:Int))).length<=b-a:=by
 unfold fK;rw[HT.eG,HT.eG,cb,b9];omega
theorem Gw {l:List Int}{lo hi:Int}(h:∀ x∈l,lo<=x∧x<=hi){z:Int}(h0:0<=z)(h1:z<l.length):∃ v:Int,atI (l.map V.int) z=some (.int v)∧lo<=v∧v<=hi:=by
 obtain⟨m,rfl⟩:∃ m:Nat,z=(m:Int):=⟨z.toNat,by omega⟩;have hm:m<l.length:=by omega
 obtain⟨a,b⟩:=h _ (cz hm);exact⟨l[m],cD (by rw[al,aa hm];rfl),a,b⟩
theorem Jy {ls:List (List Nat)}:fK (ls.map T) none (some (-1))=(ls.take (ls.length-1)).map T:=by
 unfold fK;rw[HT.fX,fk,ly,aR,lc];show (ls.map T).take (if (-1:Int)<0 then ((-1:Int)+(ls.length:Int)).toNat else min (-1:Int).toNat ls.length)=_;rw[if_pos (by decide),show ((-1:Int)+(ls.length:Int)).toNat=ls.length-1 by omega]
theorem Wc (n:Nat):(Wd.rep n [97]).length=n∧Abc (Wd.rep n [97]):=by
 refine⟨by rw[Wd.lK];show n*1=n;omega,fun c hc=>?_⟩;unfold Wd.rep at hc;obtain⟨l,h1,h2⟩:=List.mem_flatten.mp hc;rw[List.eq_of_mem_replicate h1] at h2;have e:c=97:=by simpa using h2
 omega
theorem WL.one {n:Nat}{t:List Nat}(h:t.length=n∧Abc t):WL [t] n:=⟨fun x hx=>by rw[az.mp hx];exact h,by simp⟩
def tJ (K:ae):Sp:=fun vs H Q _=>∃ (a:Addr) (ns:List Int) (mo:Nat),vs=[.ref a,.int 0,.int (mo:Nat)]∧mo<=40∧SqL K H a (ns.map V.int)∧∀ (D:Addr) (ls:List (List Nat)) (n:Nat) (H':Hp),aJ H H'->H' D=some (.lst (ls.map T))->WL ls n->(1<=n∧n<=5)->ls≠[]->ls.length<=mo∨ls.length<=1->(∃ f0,Tr f0 ls f0)->Q (.ref D) H'
theorem mL {f:Addr}{fd:FuncData}(F:Fun K "_law_ring_words" "_law_ring_words" cN f fd)(tt:Txt K mg ad)(C__law_cell_at:Cal P w K mg base (CX1 P w) "_law_cell_at" 1 ["script", "k"] (rO K))(C__law_walk:Cal P w K mg base (CX1 P w) "_law_walk" 1 ["cells", "kinds", "first"] (xN K)) :
  bQ P w K mg base (CX1 P w) 2 f fd ["script", "at", "most"] (tJ K):=by
 refine F.okN bC (fun vs H Q E h=>?_) (fun cdv A outer s H vs Q E hr h=>?_)
 ·obtain⟨a,ns,mo,rfl,_⟩:=h
  rfl
 ·obtain⟨a,ns,mo,rfl,hmo,hS,q⟩:=h
  have hs:sizeLine=16777216:=sizeLine_eq;obtain⟨nz,hnz,n1,n5⟩:=Gw (l:=[2,3,1,4,2,3,5]) (lo:=1) (hi:=5) (by decide) (dc (ns.getD 0 0) (show (7:Int)≠0 by decide)) (ci _ (show (0:Int)<7 by decide));obtain⟨kz,hkz,k1,k6⟩:=Gw (l:=[2,3,2,2,4,6,2,1]) (lo:=1) (hi:=6) (by decide) (dc (ns.getD 1 0) (show (8:Int)≠0 by decide)) (ci _ (show (0:Int)<8 by decide));obtain⟨n,rfl⟩:∃ n:Nat,nz=(n:Int):=⟨nz.toNat,by omega⟩;obtain⟨k,rfl⟩:∃ k:Nat,kz=(k:Int):=⟨kz.toNat,by omega⟩;refine⟨_,(aB (aH (i:=3) bC.nd rfl (Or.inl rfl) (cU cK (eA (aA aG (aA aG (aA aG (aA aG (aA aG (aA aG (aA aG aC)))))))) (aU eL (aI C__law_cell_at hr aO (aA (pv 0) (aA (pv 1) aC))) aG) (fun _ _=>rfl)))
   (aB (aH (i:=4) bC.nd rfl (Or.inl rfl) (cU cK (eA (aA aG (aA aG (aA aG (aA aG (aA aG (aA aG (aA aG (aA aG aC))))))))) (aU eL (aI C__law_cell_at hr aO (aA (pv 0) (aA (aU eB (pv 1) aG) aC))) aG) (fun _ _=>rfl)))
   (aB (aH (i:=5) bC.nd rfl (Or.inl rfl) (aI C__law_cell_at hr aO (aA (pv 0) (aA (aU eB (pv 1) aG) aC))))
   (aB (aH (i:=6) bC.nd rfl (Or.inl rfl) (bT [] (by decide +kernel)))
   (aB (dW PassesOwn.never rfl (jO (by rfl) tt.b_range (aA (aU eK (pv 3) aG) aC)) (cG (i:=7) bC.nd rfl (Or.inl rfl)) (aB (aH (i:=6) bC.nd rfl (Or.inl rfl) (aU iP (pv 6) (cU Qd (bT [97,98,99,100,101,102] (by decide +kernel)) (aU eL (pv 5) (pv 4)) (fun _ _=>rfl))))
   (aF (aH (i:=5) bC.nd rfl (Or.inl rfl) (aU rK (pv 5) (pv 4))))))
   (aB (aH (i:=8) bC.nd rfl (Or.inl rfl) (aI C__law_walk hr aO (aA (bL hU (pv 0) (bK (aU eB (pv 1) aG)) (bK (aU eB (aU eB (pv 1) aG) (pv 2)))) (aA (pv 4) (aA (pv 6) aC)))))
   (aB (jH PassesOwn.never (PW.pt (Mi (aW qC (aN aX (by rfl) tt.b_len bh (aA (pv 8) aC)) aG (aY _)) (Gs (aW Fx (bL mV (cU cK (pv 8) (nQ kD aG) (fun _ _=>rfl)) (bK aG) cP) (pv 6) (aY _))))) (aF (aH (i:=8) bC.nd rfl (Or.inl rfl) (bL hU (pv 8) cP (bK (nQ kD aG))))))
   (aB (bW (aW eT (aN aX (by rfl) tt.b_len bh (aA (pv 8) aC)) aG (aY _)) (aF (aH (i:=8) bC.nd rfl (Or.inl rfl) (eA (aA (aU Bx (bT [97] (by decide +kernel)) (pv 3)) aC)))) bA)
   (aF (aV (pv 8))))))))))),?_⟩
  (try rw[cM]);(try rw[cxK1])
  refine⟨(by show 7<=sizeLine;omega),fun p1 hp1=>?_⟩;have s1:=aL (o:=.lst [.int 2,.int 3,.int 1,.int 4,.int 2,.int 3,.int 5]) hp1;refine⟨_,rfl,_,rfl,a,ns,0,rfl,s1.seq hS,_,_,rfl,rfl,(by show (0:Int)<7;decide),p1,_,_,_,rfl,rfl,SqL.of aE,hnz,?_⟩;refine⟨(by show 8<=sizeLine;omega),fun p2 hp2=>?_⟩;have s2:=s1.trans (aL (o:=.lst [.int 2,.int 3,.int 2,.int 2,.int 4,.int 6,.int 2,.int 1]) hp2);refine⟨_,rfl,_,rfl,_,_,rfl,rfl,a,ns,1,rfl,s2.seq hS,_,_,rfl,rfl,(by show (0:Int)<8;decide),p2,_,_,_,rfl,rfl,SqL.of aE,hkz,?_⟩;obtain⟨H2,hH2,s2⟩:=Rj s2;rw[<- hH2];refine⟨_,rfl,_,rfl,_,_,rfl,rfl,a,ns,2,rfl,s2.seq hS,?_⟩;refine⟨_,rfl,_,_,rfl,rfl,_,rfl,by omega,by omega,?_⟩;rw[show (((n:Nat):Int)-1).toNat=n-1 by omega];refine pQ (fun i σ H3=>H2=H3∧∃ (d:Int) (t:List Nat) (v7:Option V),t.length=i∧Abc t∧σ=[some (.ref a),some (.int 0),some (.int (mo:Nat)),some (.int (n:Nat)),some (.int (k:Nat)),some (.int d),some (T t),v7,none])
   ⟨rfl,ns.getD 2 0,[],none,rfl,(fun c hc=>by simp at hc),rfl⟩ ?_ ?_
  ·rintro i σ H3 hi ⟨rfl,d,t,v7,ht,hab,rfl⟩
   have z0:=dc d (show ((k:Nat):Int)≠0 by omega);have z1:=ci d (show (0:Int)<((k:Nat):Int) by omega);obtain⟨c,hc,c0,c1⟩:=Op z0 (by omega);refine⟨_,rfl,_,rfl,_,rfl,_,_,rfl,rfl,(by show (0:Int)<((k:Nat):Int);omega),_,rfl,_,rfl,(by show 6<=sizeLine;omega),c,hc,_,rfl,_,rfl,(by show t.length+1<=sizeLine;omega),?_⟩;refine⟨_,rfl,_,rfl,_,_,rfl,rfl,⟨by omega,by omega⟩,?_⟩;refine⟨rfl,d/((k:Nat):Int),t++[c],some (.int (0+(i:Int))),by rw[aq,ht];rfl,fun e he=>?_,rfl⟩;rcases bj.mp he with g | g
   ·exact hab e g
   ·have e':e=c:=by simpa using g
    subst e';exact⟨c0,c1⟩
  ·rintro σ H3 ⟨rfl,d,f0,v7,hf,hab,rfl⟩
   obtain⟨ds,hds⟩:∃ ds:List Int,fK (ns.map V.int) (some ((3:Nat):Int)) (some ((3+mo:Nat):Int))=ds.map V.int:=vP;have hdl:ds.length<=mo:=by
    have e:=congrArg fo hds;have e2:=mU (xs:=ns.map V.int) (a:=3) (b:=3+mo);rw[aR] at e;omega
   refine⟨_,rfl,_,rfl,_,_,rfl,rfl,_,rfl,_,rfl,_,_,rfl,rfl,_,rfl,_,_,rfl,rfl,_,rfl,a,_,rfl,s2.seq hS,fun p4 hp4=>?_⟩;rw[show fK (ns.map V.int) (some ((0:Int)+3)) (some ((0:Int)+3+(mo:Nat)))=ds.map V.int by rw[<- hds];congr 2];have s4:=s2.trans (aL (o:=.lst (ds.map V.int)) hp4);refine⟨_,rfl,_,rfl,p4,ds,k,f0,rfl,SqL.of aE,⟨by omega,by omega,by omega⟩,hab,fun D ls H5 s5 hd hwl hl htr=>?_⟩;have hn':f0.length+1=n:=by omega
   rw[hn'] at hwl;have s05:=s4.trans s5;refine⟨fun m σ H6=>∃ (p:Addr) (ls':List (List Nat)),m=ls'.length∧aJ H H6∧H6 p=some (.lst (ls'.map T))∧WL ls' n∧ls'.length<=mo∧(∃ q0,Tr f0 ls' q0)∧σ=[some (.ref a),some (.int 0),some (.int (mo:Nat)),some (.int (n:Nat)),some (.int (k:Nat)),some (.int d),some (T f0),v7,some (.ref p)],⟨ls.length,D,ls,rfl,s05,hd,hwl,by omega,htr,rfl⟩,?_⟩;rintro m σ H6 ⟨p,ls',hm,s6,hd6,hw6,hl6,htr6,rfl⟩;have hml:(ls'.map T).length=ls'.length:=aR ..;have fin:∀ (D:Addr) (ls2:List (List Nat)) (H':Hp),aJ H H'->H' D=some (.lst (ls2.map T))->WL ls2 n->ls2≠[]->ls2.length<=mo∨ls2.length<=1->(∃ f0,Tr f0 ls2 f0)->Q (.ref D) H':=fun D ls2 H' h1 h2 h3 h4 h5 h6=>q D ls2 n H' h1 h2 h3 ⟨by omega,by omega⟩ h4 h5 h6
   refine⟨_,rfl,p,_,rfl,.inl (SqL.of hd6),_,_,rfl,rfl,_,rfl,?_⟩;rw[hml];refine kS (fun h0=>?a) (fun h0=>?b)
   case' a =>
    have h0':0<ls'.length:=by have:=of_decide_eq_true h0;omega
    obtain⟨t,ht⟩:∃ t,ls'[ls'.length-1]?=some t:=⟨_,aa (by omega)⟩;have htl:=(hw6.1 t (ay ht)).1;have hat:atI (ls'.map T) (-1)=some (T t):=by
     show (ixN (ls'.map T).length (-1)).bind _=_;rw[hml];unfold ixN;rw[if_neg (by decide),if_pos (by omega),show ((-1:Int)+ls'.length).toNat=ls'.length-1 by omega];show (ls'.map T)[ls'.length-1]?=_;rw[al,ht];rfl
    refine⟨_,rfl,_,rfl,p,_,_,_,rfl,rfl,SqL.of hd6,hat,_,rfl,_,rfl,(by omega),_,rfl,_,rfl,_,rfl,_,rfl,?_⟩;refine kS (fun h1=>?a1) (fun h1=>?a2)
   case a1 =>
    refine⟨_,fun σ' H' z=>z,?_⟩;refine⟨_,rfl,_,rfl,_,rfl,p,_,rfl,SqL.of hd6,fun p7 hp7=>?_⟩;rw[show fK (ls'.map T) none (some (-(1:Int)))=(ls'.take (ls'.length-1)).map T from Jy];have htk:(ls'.take (ls'.length-1)).length=ls'.length-1:=by rw[cb];omega
    exact⟨ls'.length-1,by omega,p7,ls'.take (ls'.length-1),htk.symm,s6.trans (aL hp7),aE,hw6.sub (i9 _ _),by omega,htr6.elim fun _ g=>g.take _,rfl⟩
   case' a2 =>
    have hcl:ls'≠[]->∃ f0,Tr f0 ls' f0:=fun _=>by
     obtain⟨q0,g⟩:=htr6;have e:=g.last ht;have e2:t.drop 1=f0:=by
      rw[<- jE (k:=1) (show 1<=t.length by omega)];by_cases z:gC t (some 1) none=f0
      ·exact z
      ·exact absurd (by rw[show decide (gC t (some 1) none=f0)=false from decide_eq_false z];rfl) h1
     rw[show q0=f0 from e.trans e2] at g;exact⟨f0,g⟩
   case' b =>
    have hcl:ls'≠[]->∃ f0,Tr f0 ls' f0:=fun z=>absurd (decide_eq_true (by have:=cj.mpr z;omega)) h0
   all_goals
    refine⟨_,rfl,p,_,rfl,.inl (SqL.of hd6),_,rfl,_,rfl,_,rfl,?_⟩;rw[hml];refine kS (fun h2=>?_) (fun h2=>?_)
    ·refine⟨_,rfl,_,rfl,n,rfl,⟨by omega,by show n*1<=sizeLine;omega⟩,(by show 1<=sizeLine;omega),fun p7 hp7=>?_⟩
     exact⟨_,rfl,fin p7 [Wd.rep n [97]] _ (s6.trans (aL hp7)) aE (WL.one (Wc n)) (by simp) (.inr (af 1)) ⟨beg (Wd.rep n [97]),rfl,(Jc 97 n).symm⟩⟩
    ·exact⟨_,rfl,fin p ls' H6 s6 hd6 hw6 (fun z=>h2 (decide_eq_true (by rw[z];rfl))) (.inl hl6) (hcl fun z=>h2 (decide_eq_true (by rw[z];rfl)))⟩
def xB (K:ae):Sp:=fun vs H Q _=>∃ (a:Addr) (ns:List Int),vs=[.ref a]∧SqL K H a (ns.map V.int)∧∀ (D:Addr) (ls:List (List Nat)) (n:Nat) (H':Hp),aJ H H'->H' D=some (.lst (ls.map T))->WL ls n->(1<=n∧n<=5)->ls≠[]->ls.length<=10->(∃ f0 q0,Tr f0 ls q0)->Q (.ref D) H'
theorem uQ {f:Addr}{fd:FuncData}(F:Fun K "_law_trail" "_law_trail" eZ f fd)(tt:Txt K mg ad)(C__law_cell_at:Cal P w K mg base (CX1 P w) "_law_cell_at" 1 ["script", "k"] (rO K))(C__law_walk:Cal P w K mg base (CX1 P w) "_law_walk" 1 ["cells", "kinds", "first"] (xN K)) :
  bQ P w K mg base (CX1 P w) 2 f fd ["script"] (xB K):=by
 refine F.okN bX (fun vs H Q E h=>?_) (fun cdv A outer s H vs Q E hr h=>?_)
 ·obtain⟨a,ns,rfl,_⟩:=h
  rfl
 ·obtain⟨a,ns,rfl,hS,q⟩:=h
  have hs:sizeLine=16777216:=sizeLine_eq;obtain⟨nz,hnz,n1,n5⟩:=Gw (l:=[2,3,1,4,2,3,5]) (lo:=1) (hi:=5) (by decide) (dc (ns.getD 0 0) (show (7:Int)≠0 by decide)) (ci _ (show (0:Int)<7 by decide));obtain⟨kz,hkz,k1,k6⟩:=Gw (l:=[2,3,2,2,4,6,2,1]) (lo:=1) (hi:=6) (by decide) (dc (ns.getD 1 0) (show (8:Int)≠0 by decide)) (ci _ (show (0:Int)<8 by decide));obtain⟨n,rfl⟩:∃ n:Nat,nz=(n:Int):=⟨nz.toNat,by omega⟩;obtain⟨k,rfl⟩:∃ k:Nat,kz=(k:Int):=⟨kz.toNat,by omega⟩;refine⟨_,(aB (aH (i:=1) bX.nd rfl (Or.inl rfl) (cU cK (eA (aA aG (aA aG (aA aG (aA aG (aA aG (aA aG (aA aG aC)))))))) (aU eL (aI C__law_cell_at hr aO (aA (pv 0) (aA aG aC))) aG) (fun _ _=>rfl)))
   (aB (aH (i:=2) bX.nd rfl (Or.inl rfl) (cU cK (eA (aA aG (aA aG (aA aG (aA aG (aA aG (aA aG (aA aG (aA aG aC))))))))) (aU eL (aI C__law_cell_at hr aO (aA (pv 0) (aA aG aC))) aG) (fun _ _=>rfl)))
   (aB (aH (i:=3) bX.nd rfl (Or.inl rfl) (aI C__law_cell_at hr aO (aA (pv 0) (aA aG aC))))
   (aB (aH (i:=4) bX.nd rfl (Or.inl rfl) (bT [] (by decide +kernel)))
   (aB (dW PassesOwn.never rfl (jO (by rfl) tt.b_range (aA (aU eK (pv 1) aG) aC)) (cG (i:=5) bX.nd rfl (Or.inl rfl)) (aB (aH (i:=4) bX.nd rfl (Or.inl rfl) (aU iP (pv 4) (cU Qd (bT [97,98,99,100,101,102] (by decide +kernel)) (aU eL (pv 3) (pv 2)) (fun _ _=>rfl))))
   (aF (aH (i:=3) bX.nd rfl (Or.inl rfl) (aU rK (pv 3) (pv 2))))))
   (aB (aH (i:=6) bX.nd rfl (Or.inl rfl) (aI C__law_walk hr aO (aA (bL hU (pv 0) (bK aG) (bK aG)) (aA (pv 2) (aA (pv 4) aC)))))
   (aB (bW (aW eT (aN aX (by rfl) tt.b_len bh (aA (pv 6) aC)) aG (aY _)) (aF (aH (i:=6) bX.nd rfl (Or.inl rfl) (eA (aA (aU iP (pv 4) (bT [97] (by decide +kernel))) aC)))) bA)
   (aF (aV (pv 6)))))))))),?_⟩
  (try rw[cM]);(try rw[cxK1])
  refine⟨(by show 7<=sizeLine;omega),fun p1 hp1=>?_⟩;have s1:=aL (o:=.lst [.int 2,.int 3,.int 1,.int 4,.int 2,.int 3,.int 5]) hp1;refine⟨_,rfl,a,ns,0,rfl,s1.seq hS,_,_,rfl,rfl,(by show (0:Int)<7;decide),p1,_,_,_,rfl,rfl,SqL.of aE,hnz,?_⟩;refine⟨(by show 8<=sizeLine;omega),fun p2 hp2=>?_⟩;have s2:=s1.trans (aL (o:=.lst [.int 2,.int 3,.int 2,.int 2,.int 4,.int 6,.int 2,.int 1]) hp2);refine⟨_,rfl,a,ns,1,rfl,s2.seq hS,_,_,rfl,rfl,(by show (0:Int)<8;decide),p2,_,_,_,rfl,rfl,SqL.of aE,hkz,?_⟩;obtain⟨H2,hH2,s2⟩:=Rj s2;rw[<- hH2];refine⟨_,rfl,a,ns,2,rfl,s2.seq hS,?_⟩;refine⟨_,rfl,_,_,rfl,rfl,_,rfl,by omega,by omega,?_⟩;rw[show (((n:Nat):Int)-1).toNat=n-1 by omega];refine pQ (fun i σ H3=>H2=H3∧∃ (d:Int) (t:List Nat) (v7:Option V),t.length=i∧Abc t∧σ=[some (.ref a),some (.int (n:Nat)),some (.int (k:Nat)),some (.int d),some (T t),v7,none])
   ⟨rfl,ns.getD 2 0,[],none,rfl,(fun c hc=>by simp at hc),rfl⟩ ?_ ?_
  ·rintro i σ H3 hi ⟨rfl,d,t,v7,ht,hab,rfl⟩
   have z0:=dc d (show ((k:Nat):Int)≠0 by omega);have z1:=ci d (show (0:Int)<((k:Nat):Int) by omega);obtain⟨c,hc,c0,c1⟩:=Op z0 (by omega);refine⟨_,rfl,_,rfl,_,rfl,_,_,rfl,rfl,(by show (0:Int)<((k:Nat):Int);omega),_,rfl,_,rfl,(by show 6<=sizeLine;omega),c,hc,_,rfl,_,rfl,(by show t.length+1<=sizeLine;omega),?_⟩;refine⟨_,rfl,_,rfl,_,_,rfl,rfl,⟨by omega,by omega⟩,?_⟩;refine⟨rfl,d/((k:Nat):Int),t++[c],some (.int (0+(i:Int))),by rw[aq,ht];rfl,fun e he=>?_,rfl⟩;rcases bj.mp he with g | g
   ·exact hab e g
   ·have e':e=c:=by simpa using g
    subst e';exact⟨c0,c1⟩
  ·rintro σ H3 ⟨rfl,d,f0,v7,hf,hab,rfl⟩
   obtain⟨ds,hds⟩:∃ ds:List Int,fK (ns.map V.int) (some ((3:Nat):Int)) (some ((13:Nat):Int))=ds.map V.int:=vP;have hdl:ds.length<=10:=by
    have e:=congrArg fo hds;have e2:=mU (xs:=ns.map V.int) (a:=3) (b:=13);rw[aR] at e;omega
   refine⟨_,rfl,_,rfl,_,rfl,a,_,rfl,s2.seq hS,fun p4 hp4=>?_⟩;rw[show fK (ns.map V.int) (some (3:Int)) (some (13:Int))=ds.map V.int from hds];have s4:=s2.trans (aL (o:=.lst (ds.map V.int)) hp4);refine⟨_,rfl,_,rfl,p4,ds,k,f0,rfl,SqL.of aE,⟨by omega,by omega,by omega⟩,hab,fun D ls H5 s5 hd hwl hl htr=>?_⟩;have hn':f0.length+1=n:=by omega
   rw[hn'] at hwl;have s05:=s4.trans s5;refine⟨_,rfl,D,_,rfl,.inl (SqL.of hd),_,rfl,_,rfl,_,rfl,?_⟩;rw[aR];refine kS (fun h2=>?_) (fun h2=>?_)
   ·refine⟨_,rfl,_,rfl,_,rfl,(by show f0.length+1<=sizeLine;omega),(by show 1<=sizeLine;omega),fun p7 hp7=>?_⟩
    exact⟨_,rfl,q p7 [f0++[97]] n _ (s05.trans (aL hp7)) aE (WL.one ⟨by rw[aq,b7];exact hn',fun c hc=>by
     rcases bj.mp hc with g | g
     ·exact hab c g
     ·have e:c=97:=by simpa using g
      omega⟩) ⟨by omega,by omega⟩ (by simp) (by simp) ⟨f0,_,Au f0 97,rfl⟩⟩
   ·exact⟨_,rfl,q D ls n H5 s05 hd hwl ⟨by omega,by omega⟩ (fun z=>h2 (decide_eq_true (by rw[z];rfl))) (by omega) (htr.elim fun q0 g=>⟨f0,q0,g⟩)⟩
def zQ:Sp:=fun vs H Q _=>∃ x:Int,vs=[.int x,.int x]∧Q (.bl true) H
theorem vC {f:Addr}{fd:FuncData}(F:Fun K "_law_whole" "_law_whole" eU f fd)(tt:Txt K mg ad):bQ P w K mg base (CX1 P w) 1 f fd ["found", "due"] zQ:=by
 refine F.okN vB (fun vs H Q E h=>?_) (fun cdv A outer s H vs Q E hr h=>?_)
 ·obtain⟨x,rfl,_⟩:=h
  rfl
 ·obtain⟨x,rfl,q⟩:=h
  refine⟨_,(aF (aV (uI (aN kL (by rfl) tt.b_isinstance i0 (aA (pv 0) (aA (yQ (v:=.ty "int") (u:=.type "int") (by rfl) tt.b_int (by decide +kernel) rfl) aC))) (uI (Th (aN kL (by rfl) tt.b_isinstance i0 (aA (pv 0) (aA (yQ (v:=.ty "bool") (u:=.type "bool") (by rfl) tt.b_bool (by decide +kernel) rfl) aC)))) (Eo (iV eT (pv 0) (pv 1) (aY _))))))),?_⟩
  (try rw[cM]);(try rw[cxK1])
  refine⟨_,rfl,_,_,_,_,rfl,.int _,Al _,_,rfl,rW ?_⟩;refine⟨_,rfl,_,_,_,_,rfl,.int _,zK,_,rfl,_,rfl,rW ?_⟩;refine⟨_,rfl,_,rfl,_,rfl,_,rfl,?_⟩;rw[decide_eq_true rfl];exact q
def Dz (K:ae):Sp:=fun vs H Q _=>∃ (a:Addr) (ns:List Int) (M:Nat),vs=[.ref a,.int (M:Nat)]∧SqL K H a (ns.map V.int)∧(1<=M∧M<=10 ^ 18)∧∀ (D:Addr) (qs:List Int) (H':Hp),aJ H H'->H' D=some (.lst (qs.map V.int))->qs.Pairwise (· < ·)->(∀ z∈qs,0<=z∧z<(M:Int))->((M:Int)-1)∈qs->Q (.ref D) H'
theorem qP {f:Addr}{fd:FuncData}(F:Fun K "_law_numbers" "_law_numbers" dJ f fd)(tt:Txt K mg ad):bQ P w K mg base (CX1 P w) 1 f fd ["script", "many"] (Dz K):=by
 refine F.okN eD (fun vs H Q E h=>?_) (fun cdv A outer s H vs Q E hr h=>?_)
 ·obtain⟨a,ns,M,rfl,_⟩:=h
  rfl
 ·obtain⟨a,ns,M,rfl,hS,⟨hM1,hM2⟩,q⟩:=h
  have hs:sizeLine=16777216:=sizeLine_eq;have hM3:M<=1000000000000000000:=hM2;refine⟨_,(aB (aH (i:=2) eD.nd rfl (Or.inl rfl) aG)
   (aB (aH (i:=3) eD.nd rfl (Or.inl rfl) (eA (aA aG (aA (aU eK (pv 1) aG) aC))))
   (aB (dW PassesOwn.never rfl (cF (bL hU (pv 0) cP (bK aG))) (cG (i:=4) eD.nd rfl (Or.inl rfl)) (aB (aH (i:=2) eD.nd rfl (Or.inl rfl) (aU eL (aU eB (aU xT (pv 2) aG) (pv 4)) (pv 1)))
   (aF (iY (Az gg jx jy jM (pv 3) (aA (pv 2) aC))))))
   (aF (aV (aN (yC rfl) (by rfl) tt.b_sorted df (aA (cW (Ke rfl) (by rfl) tt.b_set (by decide +kernel) (aA (pv 3) aC)) aC))))))),?_⟩
  (try rw[cM]);(try rw[cxK1])
  refine⟨_,rfl,_,_,rfl,rfl,(by show 2<=sizeLine;omega),fun D hD=>?_⟩;have sD:=aL (o:=.lst [.int 0,.int ((M:Int)-1)]) hD;obtain⟨cs,hcs⟩:∃ cs:List Int,fK (ns.map V.int) none (some (3:Int))=cs.map V.int:=⟨(ns.drop _).take _,by unfold fK;rw[<- jw,<- lc]⟩;have hcl:cs.length<=3:=by
   have h1:=congrArg fo hcs;rw[aR] at h1;rw[<- h1];unfold fK;rw[cb,HT.fX,show HT.sIx (ns.map V.int).length (ns.map V.int).length (some (3:Int))=min 3 (ns.map V.int).length from HT.eG _ _ 3];omega
  refine⟨_,rfl,_,rfl,a,_,rfl,sD.seq hS,fun p4 hp4=>?_⟩;rw[hcs];have s4:=aL (o:=.lst (cs.map V.int)) hp4;have hp4D:D≠p4:=fun z=>by rw[<- z,aE] at hp4;cases hp4
  have hpn:H p4=none:=by
   cases e:H p4 with
   | none=>rfl
   | some o=>rw[sD p4 o e] at hp4;cases hp4
  refine⟨p4,rfl,⟨_,SqL.of aE⟩,?_⟩;refine fH (K:=K) (a:=p4) (xs:=cs.map V.int) (fun i σ G=>aJ H G∧G p4=some (.lst (cs.map V.int))∧∃ (md:Int) (qs:List Int) (v4:Option V),(0<=md∧md<(M:Int))∧G D=some (.lst (qs.map V.int))∧qs.length<=2+i∧(∀ z∈qs,0<=z∧z<(M:Int))∧((M:Int)-1)∈qs∧σ=[some (.ref a),some (.int (M:Nat)),some (.int md),some (.ref D),v4])
   ⟨sD.trans s4,aE,0,[0,(M:Int)-1],none,⟨by omega,by omega⟩,s4 D _ aE,(by show 2<=2+0;omega),fun z hz=>by
    rcases aw.mp hz with h | h
    ·omega
    ·have:=az.mp h;omega,by simp,rfl⟩ (fun i σ G _ h=>SqL.of h.2.1) ?_ ?_
  ·rintro i y σ G hi ⟨sG,h4,md,qs,v4,hmd,hd,hql,hqs,hqm,rfl⟩
   have hil:i<cs.length:=by have:=(ag.mp hi).1;rw[aR] at this;exact this
   obtain⟨z,_,rfl⟩:=au.mp (ay hi);refine⟨_,rfl,_,_,rfl,rfl,.inr ⟨by decide,by decide⟩,_,rfl,_,_,rfl,rfl,_,rfl,_,_,rfl,rfl,(by omega),?_⟩;have z0:=dc (md*1000003+z) (show (M:Int)≠0 by omega);have z1:=ci (md*1000003+z) (show (0:Int)<(M:Int) by omega);refine⟨_,rfl,.inl ⟨rfl,_,SqL.of hd⟩,_,rfl,D,_,_,rfl,rfl,hd,(by rw[aR];omega),?_⟩;refine⟨fun b o e=>by rw[aK (aM e hD)];exact sG b o e,by rw[aK hp4D.symm];exact h4,(md*1000003+z) % (M:Int),qs++[(md*1000003+z) % (M:Int)],_,⟨z0,z1⟩,by rw[aE,bn];rfl,by rw[aq];show _+1<=_;omega,fun y hy=>?_,gc _ hqm,rfl⟩;rcases bj.mp hy with h | h
   ·exact hqs y h
   ·rw[az.mp h];exact⟨z0,z1⟩
  ·rintro σ G ⟨sG,h4,md,qs,v4,hmd,hd,hql,hqs,hqm,rfl⟩
   rw[aR] at hql;refine⟨_,rfl,D,qs,rfl,SqL.of hd,by omega,fun S ms hSn hnd hml hmm=>?_⟩;have s5:=aL (o:=Hu w S ms) hSn;refine⟨S,ms,rfl,aE,by omega,fun so E hE hp hw=>?_⟩;have s6:=aL (o:=.lst (so.map V.int)) hE;refine q E so _ (sG.trans (s5.trans s6)) aE ?_ (fun z hz=>hqs z ((hmm z).mp (hp.mem_iff.mp hz))) (hp.mem_iff.mpr ((hmm _).mpr hqm));exact qa (fun a b h1 h2=>by omega) hw (hp.nodup_iff.mpr hnd)
def Ei (K:ae):Sp:=fun vs H Q _=>∃ (a:Addr) (ls:List (List Nat)) (t:List Nat) (n:Nat),vs=[.ref a,T t]∧SqL K H a (ls.map T)∧(ls≠[]∧ls.length<=60∧(1<=n∧n<=8)∧(∀ w∈ls,w.length=n))∧t.length=ls.length+n-1∧(Wd.fS t n).Perm ls∧∀ (H':Hp),aJ H H'->Q (.bl true) H'
theorem tW {f:Addr}{fd:FuncData}(F:Fun K "_law_is_row" "_law_is_row" dC f fd)(tt:Txt K mg ad):bQ P w K mg base (CX1 P w) 1 f fd ["words", "text"] (Ei K):=by
 refine F.okN lC (fun vs H Q E h=>?_) (fun cdv A outer s H vs Q E hr h=>?_)
 ·obtain⟨a,ls,t,n,rfl,_⟩:=h
  rfl
 ·obtain⟨a,ls,t,n,rfl,hS,⟨hne,hl,hn,hlen⟩,htl,hp,q⟩:=h
  have hs:sizeLine=16777216:=sizeLine_eq;have hu:=h9 (fV hr);have hpos:=cj.mpr hne;obtain⟨w0,hw0⟩:∃ w0,ls[0]?=some w0:=⟨ls[0]'hpos,aa _⟩;have hw0l:=hlen w0 (ay hw0);refine⟨_,(aB (aH (i:=2) lC.nd rfl (Or.inr rfl) (aN cV (by rfl) tt.b_len bh (aA (cU cK (pv 0) aG (fun _ _=>rfl)) aC)))
   (aB (bW (PW.pt (pZ (mH (kW (aN kL (by rfl) tt.b_isinstance i0 (aA (pv 1) (aA (yQ (v:=.ty "str") (u:=.type "str") (by rfl) tt.b_str (by decide +kernel) rfl) aC))))) (mO (aW lM (aN cV (by rfl) tt.b_len bh (aA (pv 1) aC)) (aU eK (aU eB (aN aX (by rfl) tt.b_len bh (aA (pv 0) aC)) (pv 2)) aG) (aY _))))) (aF (aV qH)) bA)
   (aF (aV (iV (rN hu) (aN eX (by rfl) tt.b_sorted df (aA (eI pA rfl (jO (by rfl) tt.b_range (aA (aN aX (by rfl) tt.b_len bh (aA (pv 0) aC)) aC)) (fun cl C s' H' fp=>(bL mV (pv 2) (bK (pv 0)) (bK (aU eB (pv 0) (pv 3)))))) aC)) (aN eX (by rfl) tt.b_sorted df (aA (pv 0) aC)) (aY _)))))),?_⟩
  (try rw[cM]);(try rw[cxK1])
  refine⟨_,rfl,a,_,_,_,rfl,rfl,hS,cD (j:=0) (by rw[al,hw0];rfl),_,rfl,(by omega),?_⟩;rw[hw0l];refine⟨_,rfl,_,_,_,_,rfl,.str _,Al _,_,rfl,oF ?_⟩;refine⟨_,rfl,_,rfl,(by omega),_,rfl,a,_,rfl,.inl hS,_,rfl,_,_,rfl,rfl,_,_,rfl,rfl,_,rfl,_,rfl,_,rfl,?_⟩;rw[aR];refine itN (by rw[decide_eq_true (by omega)];exact ak) ?_;refine⟨_,rfl,a,_,rfl,.inl hS,_,rfl,by rw[aR];omega,by rw[aR];omega,?_⟩;rw[aR,show (((ls.length:Nat):Int)).toNat=t.length+1-n by omega];refine mQ (lo:=0) (n:=t.length+1-n) (fun i=>T (Wd.fL t n i)) (by omega) (fun i H4 hi s4 N hN=>?_) fun D G1 hD s1 hd=>?_
  ·refine⟨_,rfl,_,rfl,_,rfl,_,rfl,_,rfl,_,_,rfl,rfl,_,rfl,_,rfl,by omega,?_⟩
   have e:gC t (some (0+(i:Int))) (some (0+(i:Int)+((n:Nat):Int)))=Wd.fL t n i:=by
    rw[qv,<- gi,uO (by omega) (by omega),m9];exact Wd.tZ (by omega)
   rw[e];exact hN H4 (aJ.refl _)
  have hd':G1 D=some (.lst ((Wd.fS t n).map T)):=by rw[hd,Wd.fS,br];rfl
  refine⟨D,Wd.fS t n,rfl,SqL.of hd',(by rw[Wd.Ac];omega),fun so1 E1 hE1 hp1 hw1=>?_⟩;have s2:=aL (o:=.lst (so1.map T)) hE1;have s12:=s1.trans s2;refine⟨_,rfl,a,ls,rfl,s12.seq hS,(by omega),fun so2 E2 hE2 hp2 hw2=>?_⟩;have s3:=aL (o:=.lst (so2.map T)) hE2;obtain rfl:so1=so2:=Wd.gW (hp1.trans (hp.trans hp2.symm)) hw1 hw2;refine⟨E1,E2,so1,so1,rfl,rfl,SqL.of (s3 E1 _ aE),SqL.of aE,?_⟩;rw[decide_eq_true rfl];exact q _ (s12.trans s3)
def Ub (K:ae)(C:Addr):Sp:=fun vs H Q _=>∃ (x tp a:Addr) (n:Nat) (ms ls:List (List Nat)) (p q m0:List Nat) (ps:List (List Nat)),vs=[.ref x,.ref a,.int (mG ms p q ps:Nat)]∧SqL K H a (ls.map T)∧zP C H x tp n ms ls p q m0 ps∧∀ (H':Hp),aJ H H'->Q (.bl true) H'
theorem lP {f:Addr}{fd:FuncData}(F:Fun K "_law_count_right" "_law_count_right" cJ f fd)(tt:Txt K mg ad)(C_ring_count:Cal P w K mg base (CX1 P w) "ring_count" 6 ["web"] (qZ ad.Web))(C_ways_on:Cal P w K mg base (CX1 P w) "ways_on" 5 ["words", "one", "other"] (iM K)):bQ P w K mg base (CX1 P w) 7 f fd ["web", "words", "many"] (Ub K ad.Web):=by
 refine F.okN fG (fun vs H Q E h=>?_) (fun cdv A outer s H vs Q E hr h=>?_)
 ·obtain⟨x,tp,a,n,ms,ls,p,q',m0,ps,rfl,_⟩:=h
  rfl
 ·obtain⟨x,tp,a,n,ms,ls,p,q',m0,ps,rfl,hS,hRw,q⟩:=h
  obtain⟨hW,hok,hm0,hway,hps,hpm⟩:=id hRw;have hs:sizeLine=16777216:=sizeLine_eq;obtain⟨hne,h60,hn,hxs,hnd⟩:=id hok;have hm0m:=ay hm0;have hll:=hway.2.length_eq;have hmpos:=cj.mpr hne;have hlne:ls≠[]:=cj.mp (by omega);have hxl:∀ l∈ls,1<=l.length∧l.length<=1000:=fun l hl=>by have:=(hxs l (hway.2.mem_iff.mp hl)).1;omega
  obtain⟨w0,hw0⟩:∃ w0,ls[0]?=some w0:=⟨ls[0]'(by omega),aa _⟩;obtain⟨li,w1,hli⟩:∃ li w1,ls=li++[w1]:=⟨ls.dropLast,ls.getLast hlne,(iz hlne).symm⟩;have hw0l:=hxl w0 (ay hw0);have hw1l:=hxl w1 (by rw[hli];exact bu _ (az.mpr rfl));have htr:=hway.1;have e0:p=beg w0:=by
   cases ls with
   | nil=>exact absurd rfl hlne
   | cons x xs =>
    have:x=w0:=by simpa using hw0
    rw[<- this];exact htr.1.symm
  have e1:q'=w1.drop 1:=Hg.Tr.last htr (by rw[hli];simp);have hpn:ps.Nodup:=hps.imp fun z e=>absurd (e▸z) (ge _)
  have hpp:=(hpm p).mpr (qY hway hne).1;refine⟨_,(aB (aH (i:=3) fG.nd rfl (Or.inl rfl) (bL mV (cU cK (pv 1) aG (fun _ _=>rfl)) cP (bK (nQ kD aG))))
   (aB (aH (i:=4) fG.nd rfl (Or.inl rfl) (bL mV (cU cK (pv 1) (nQ kD aG) (fun _ _=>rfl)) (bK aG) cP))
   (aB (bW (aW nK (pv 3) (pv 4) (aY _)) (aF (aV (iV eT (pv 2) (aU xT (aN aX (by rfl) tt.b_len bh (aA (pv 1) aC)) (aI C_ring_count hr aO (aA (pv 0) aC))) (aY _)))) bA)
   (aF (aV (uI (iV eT (aI C_ring_count hr aO (aA (pv 0) aC)) aG (aY _)) (Eo (iV eT (pv 2) (aI C_ways_on hr aO (aA (pv 1) (aA (pv 3) (aA (pv 4) aC)))) (aY _))))))))),?_⟩
  (try rw[cM]);(try rw[cxK1])
  refine⟨_,rfl,a,_,_,_,rfl,rfl,hS,(cD (j:=0) (by rw[al,hw0];rfl)),_,rfl,_,rfl,_,rfl,(by omega),?_⟩;rw[show gC w0 none (some (-(1:Int)))=beg w0 from oV hw0l.1,<- e0];refine⟨_,rfl,_,rfl,a,_,_,_,rfl,rfl,hS,(by rw[hli,bn];exact Lz _ _),_,rfl,_,rfl,(by omega),?_⟩;rw[show gC w1 (some 1) none=w1.drop 1 from jE (k:=1) hw1l.1,<- e1];refine⟨_,rfl,_,rfl,_,rfl,_,rfl,_,rfl,?_⟩;by_cases hpq:p=q'
  ·refine itP (decide_eq_true hpq) ?_
   refine⟨_,rfl,_,rfl,a,_,rfl,.inl hS,_,rfl,x,tp,n,ms,m0,rfl,hW,hok,hm0,fun H1 s1=>?_⟩;refine⟨_,_,rfl,rfl,.inl ⟨by rw[aR];omega,by rw[aR];omega⟩,?_⟩;refine⟨_,rfl,_,rfl,?_⟩;have hsum:mG ms p q' ps=ms.length*Dt.eN (Dt.rm ms m0) (Wd.fin m0) (Wd.beg m0):=by
    unfold mG;rw[<- hpq];exact Dt.By hnd hm0m hpn fun w hw=>(hpm _).mpr ⟨w,hw,.inl rfl⟩
   have z:=q H1 s1;rw[hsum,aR,hll,eg];show Q (.bl (decide _)) H1;rw[decide_eq_true rfl];exact z
  ·refine itN (fun z=>hpq (of_decide_eq_true z)) ?_
   refine⟨_,rfl,x,tp,n,ms,m0,rfl,hW,hok,hm0,fun H1 s1=>?_⟩;rw[Dt.tY hnd hm0m hway.2 hway.1 hpq];refine⟨_,rfl,_,rfl,_,rfl,?_⟩;refine itP (decide_eq_true rfl) ?_;refine⟨_,rfl,_,rfl,_,rfl,_,rfl,a,ls,p,q',rfl,.inl (s1.seq hS),⟨hway.2.nodup_iff.mpr hnd,by omega,hxl⟩,fun H2 s2=>?_⟩;refine⟨_,rfl,_,rfl,?_⟩;have hsum:mG ms p q' ps=Dt.eN ls p q':=by
    unfold mG;rw[Dt.Mt hnd hway.2 hway.1 hpq hpn hpp];exact Dt.Pr hway.2.symm hnd p q'
   rw[hsum];show Q (.bl (decide _)) H2;rw[decide_eq_true rfl];exact q H2 (s1.trans s2)
def Wf (ls:List (List Nat))(n:Nat):Prop:=WL ls n∧(1<=n∧n<=5)∧ls≠[]∧ls.length<=10∧∃ p q,Hg.Tr Wd.beg Wd.fin p ls q
theorem Wy {p q:List Nat}:Dt.reF p q p=q:=by
 unfold Dt.reF;split
 ·assumption
 ·rfl
theorem Ck {k:Nat}(h:k<=10):Dt.fct k<=3628800:=by
 have h1:∀ n m,n<=m->Dt.fct n<=Dt.fct m:=fun n m h=>by
  induction h with
  | refl=>exact af _
  | @step m _ ih=>exact a5 ih (Dt.Bw (m+1))
 exact a5 (h1 k 10 h) (by decide)
theorem Fj:∀ {k:Nat} {E:List (List Nat)} {a b:List Nat},E.Nodup->E.length=k->(Dt.gM k E a b).length<=Dt.fct k
 | 0,E,a,b,_,_=>by
  show (if a=b then [[]] else ([]:List (List (List Nat)))).length<=1;split <;> simp
 | k+1,E,a,b,hn,h=>by
  show ((Dt.og E a).flatMap fun w=>(Dt.gM k (Dt.rm E w) (Wd.fin w) b).map fun us=>w::us).length<=(k+1)*Dt.fct k;have hog:(Dt.og E a).length<=k+1:=a5 (db ..) (by omega);have key:∀ l:List (List Nat),(∀ w∈l,w∈E)->(l.flatMap fun w=>(Dt.gM k (Dt.rm E w) (Wd.fin w) b).map fun us=>w::us).length<=l.length*Dt.fct k:=fun l=>by
   induction l with
   | nil=>intro _;simp
   | cons w l ih =>
    intro hl;rw[dk,aq,aR,a9,gr,gd,ki]
    have:=Dt.gH hn (hl w (ar ..))
    exact sf (ih fun x hx=>hl x (ah _ hx)) (Fj (Dt.gF hn) (by omega))
  exact a5 (key _ fun w hw=>(Dt.bZ.mp hw).1) (jj _ hog)
def Gy (K:ae):Sp:=fun vs H Q _=>∃ (a:Addr) (ns:List Int),vs=[.ref a]∧SqL K H a (ns.map V.int)∧ns.length<=63∧∀ H',Q (.bl true) H'
theorem Su {f:Addr}{fd:FuncData}(F:Fun K "law" "law" lW f fd)(tt:Txt K mg ad)(C__law_trail:Cal P w K mg base (CX1 P w) "_law_trail" 2 ["script"] (xB K))(C__law_cell_at:Cal P w K mg base (CX1 P w) "_law_cell_at" 1 ["script", "k"] (rO K))(C__law_ring_words:Cal P w K mg base (CX1 P w) "_law_ring_words" 2 ["script", "at", "most"] (tJ K))(C_Web_init:Cam P w K mg base (CX1 P w) "Web" ad.Web 5 ["self", "words"] (Fg K ad.Web))(C_row_count:Cal P w K mg base (CX1 P w) "row_count" 8 ["web"] (mK ad.Web))(C__law_count_right:Cal P w K mg base (CX1 P w) "_law_count_right" 7 ["web", "words", "many"] (Ub K ad.Web))(C__law_numbers:Cal P w K mg base (CX1 P w) "_law_numbers" 1 ["script", "many"] (Dz K))
  (C_row_by:Cal P w K mg base (CX1 P w) "row_by" 8 ["web", "number"] (wZ ad.Web ad)) (C__law_is_row:Cal P w K mg base (CX1 P w) "_law_is_row" 1 ["words", "text"] (Ei K)) (C__law_whole:Cal P w K mg base (CX1 P w) "_law_whole" 1 ["found", "due"] zQ) (C_row_number:Cal P w K mg base (CX1 P w) "row_number" 8 ["web", "row"] (Da ad.Web ad)) :
  bQ P w K mg base (CX1 P w) 9 f fd ["script"] (Gy K):=by
 refine F.okN iN (fun vs H Q E h=>?_) (fun cdv A outer s H vs Q E hr h=>?_)
 ·obtain⟨a,ns,rfl,_⟩:=h
  rfl
 ·obtain⟨a,ns,rfl,hS,hlen,q⟩:=h
  have hs:sizeLine=16777216:=sizeLine_eq;have hu:=h9 (fV hr);refine⟨_,(aB (aH (i:=1) iN.nd rfl (Or.inl rfl) (aI C__law_trail hr aO (aA (pv 0) aC)))
   (aB (Kn (t':=(fun D σ H=>∃ (a Dw:Addr) (ls:List (List Nat)) (n:Nat) (ns:List Int),σ=[some (.ref a),some (.ref Dw),none,none,none,none,none,none]∧SqL K H a (ns.map V.int)∧H Dw=some (.lst (ls.map T))∧Wf ls n∧∀ (Dw':Addr) (ls':List (List Nat)) (n':Nat) (H':Hp),aJ H H'->H' Dw'=some (.lst (ls'.map T))->Wf ls' n'->D.nx [some (.ref a),some (.ref Dw'),none,none,none,none,none,none] H')) (bW (aW eT (aU eL (aU rK (aI C__law_cell_at hr aO (aA (pv 0) (aA aG aC))) aG) aG) aG (aY _)) (aF (aH (i:=1) iN.nd rfl (Or.inl rfl) (aI C__law_ring_words hr aO (aA (pv 0) (aA aG (aA aG aC)))))) bA) ?rA)
   (aB (aH (i:=2) iN.nd rfl (Or.inl rfl) (Tz C_Web_init hr aO (aA (pv 1) aC)))
   (aB (aH (i:=3) iN.nd rfl (Or.inl rfl) (aI C_row_count hr aO (aA (pv 2) aC)))
   (aB (bW (PW.pt (pZ (mH (kW (aI C__law_whole hr aO (aA (pv 3) (aA (pv 3) aC))))) (mO (mH (kW (aI C__law_count_right hr aO (aA (pv 2) (aA (pv 1) (aA (pv 3) aC))))))))) (aF (aV qH)) bA)
   (aB (aH (i:=4) iN.nd rfl (Or.inl rfl) (bT [] (by decide +kernel)))
   (aB (dW PassesOwn.never rfl (cF (aI C__law_numbers hr aO (aA (pv 0) (aA (pv 3) aC)))) (cG (i:=5) iN.nd rfl (Or.inl rfl)) (aB (aH (i:=6) iN.nd rfl (Or.inl rfl) (aI C_row_by hr aO (aA (pv 2) (aA (pv 5) aC))))
   (aB (bW (PW.pt (pZ (mH (kW (aI C__law_is_row hr aO (aA (pv 1) (aA (pv 6) aC))))) (pZ (mH (kW (aI C__law_whole hr aO (aA (aI C_row_number hr aO (aA (pv 2) (aA (pv 6) aC))) (aA (pv 5) aC))))) (mO (aW Pj (pv 4) (pv 6) (aY _)))))) (aF (aV qH)) bA)
   (aF (aH (i:=4) iN.nd rfl (Or.inl rfl) (pv 6))))))
   (aB (aH (i:=7) iN.nd rfl (Or.inl rfl) (aU iP (bL mV (cU cK (pv 1) aG (fun _ _=>rfl)) cP (bK (nQ kD aG))) (Az PySem.F.plainAttrs_str PySem.F.slot_str_join PySem.F.type_str_join Ph (bT [] (by decide +kernel)) (aA (eI Kt rfl (cF (pv 1)) (fun cl C s' H' fp=>(cU Qd (pv 0) (nQ kD aG) (fun _ _=>rfl)))) aC))))
   (aB (aH (i:=5) iN.nd rfl (Or.inl rfl) (aI C_row_number hr aO (aA (pv 2) (aA (pv 7) aC))))
   (aF (aV (uI (aI C__law_whole hr aO (aA (pv 5) (aA (pv 5) aC))) (uI (Kq Rn lU aG (pv 5) (pv 3)) (Eo (iV nK (aI C_row_by hr aO (aA (pv 2) (aA (pv 5) aC))) (pv 7) (aY _)))))))))))))))),?_⟩
  (try rw[cM]);(try rw[cxK1])
  case rA =>
   rintro D0 σ G ⟨a,Dw,ls,n,ns,rfl,hS,hd,hok,fin⟩;refine⟨_,rfl,a,ns,0,rfl,hS,_,_,rfl,rfl,⟨by decide,by decide⟩,_,_,rfl,rfl,(by show (0:Int)<2;decide),_,rfl,_,rfl,_,rfl,?_⟩;by_cases h1:ns.getD 0 0/7 % 2=1
   ·refine itP (decide_eq_true h1) ?_
    refine⟨_,rfl,a,ns,10,rfl,by decide,hS,fun D ls n H1 s1 hd hwl hn hne hl10 htr=>?_⟩;exact fin D ls n H1 s1 hd ⟨hwl,hn,hne,by omega,htr.elim fun f0 h=>⟨f0,f0,h⟩⟩
   ·refine itN (fun z=>h1 (of_decide_eq_true z)) ?_
    exact fin Dw ls n G (aJ.refl _) hd hok
  refine⟨_,rfl,a,ns,rfl,hS,fun D1 ls1 n1 H0 s0 hd1 hwl1 hn1 hne1 hl1 htr1=>?_⟩;refine⟨a,D1,ls1,n1,ns,rfl,s0.seq hS,hd1,⟨hwl1,hn1,hne1,hl1,htr1⟩,fun D ls n H1 s01 hd ⟨hwl,hn,hne,hll,p,q',htr⟩=>?_⟩;have s1:=s0.trans s01;have hok:gG ls n:=⟨hne,by omega,⟨⟨by omega,by omega⟩,uL.len (by omega)⟩,hwl.1,hwl.2⟩;refine⟨_,rfl,?_⟩;intro x dx nx ndx nex;have s2:aJ H1 (upd (upd H1 dx (.own x)) x (.ins ad.Web dx [])):=fun b o e=>by
   rw[aK (aM e nx),aK (aM e ndx)];exact e
  refine⟨x,dx,D,ls,n,rfl,aE,SqL.of (s2 D _ hd),hok,fun tp ms H2 hp2 hw2 k2 hx2 ht2=>⟨rfl,?_⟩⟩;have s2:aJ H1 H2:=fun b o e=>k2 b o (s2 b o e) (aM e nx)
  have hW:gR ad.Web H2 x tp n ms:=⟨⟨dx,hx2⟩,ht2⟩;have hokm:=hok.perm hp2;have hd2:=s2 D _ hd;obtain⟨m0,hm0⟩:∃ m0,ms[0]?=some m0:=⟨ms[0]'(cj.mpr hokm.1),aa _⟩;have hm0m:=ay hm0;have hmsn:=hokm.2.2.2.2;have hmsl:∀ w∈ms,w.length=n:=fun w hw=>(hokm.2.2.2.1 w hw).1
  have hml:=hp2.length_eq;have hway:sO ls ms p q':=⟨htr,hp2.symm⟩;refine⟨_,rfl,x,tp,n,ms,ls,p,q',m0,rfl,hW,hokm,hm0,hway,fun ps H3 hps hpm s3=>?_⟩;have hRw:zP ad.Web H3 x tp n ms ls p q' m0 ps:=⟨hW.on s3,hokm,hm0,hway,hps,hpm⟩;have hpn:ps.Nodup:=hps.imp fun z e=>absurd (e▸z) (ge _)
  have hpp:=(hpm p).mpr (qY hway hokm.1).1;have hpl:∀ z∈ps,z.length=n-1:=fun z hz=>by
   obtain⟨l,hl,e | e⟩:=(hpm z).mp hz
   ·have:=hmsl l hl;rw[e];show (l.take (l.length-1)).length=_;rw[cb];omega
   ·have:=hmsl l hl;rw[e,b9];omega
  have hwl1':∀ w∈ms,1<=w.length:=fun w hw=>by have:=hmsl w hw;omega
  have hmine:=Dt.Ng (p:=p) (q:=q') hmsn hw2 hps hpp hway.2 (by rw[Wy];exact htr);have hMlen:(Dt.rws ms p q' ps).length=mG ms p q' ps:=Dt.Hd;have hMpos:1<=mG ms p q' ps:=by have:=(ag.mp hmine).1;omega
  have hMle:mG ms p q' ps<=10 ^ 18:=by
   by_cases hpq:p=q'
   ·subst hpq
    have e:mG ms p p ps=_:=Dt.By hmsn hm0m hpn fun w hw=>(hpm _).mpr ⟨w,hw,.inl rfl⟩
    have h1:=Fj (a:=Wd.fin m0) (b:=Wd.beg m0) (Dt.gF (w:=m0) hmsn) rfl;have h2:=Dt.gH hmsn hm0m;have h3:=Ck (k:=(Dt.rm ms m0).length) (by omega);have h4:Dt.eN (Dt.rm ms m0) (Wd.fin m0) (Wd.beg m0)<=3628800:=a5 h1 h3;have h5:ms.length*Dt.eN (Dt.rm ms m0) (Wd.fin m0) (Wd.beg m0)<=10*3628800:=fj (by omega) h4;rw[e];exact a5 h5 (by decide)
   ·have e:mG ms p q' ps=_:=Dt.Mt hmsn hway.2 htr hpq hpn hpp
    have h1:=Fj (a:=p) (b:=q') hmsn rfl;have h3:=Ck (k:=ms.length) (by omega);rw[e];exact a5 (a5 h1 h3) (by decide)
  refine⟨_,rfl,_,rfl,_,rfl,_,rfl,oF ?_⟩;have hS3:=(s1.trans (s2.trans s3)).seq hS;refine⟨_,rfl,_,rfl,_,rfl,x,tp,D,n,ms,ls,p,q',m0,ps,rfl,SqL.of (s3 D _ hd2),hRw,fun H3' s3'=>⟨_,rfl,?_⟩⟩;refine oF ?_;generalize hcn:mG ms p q' ps=M at hMpos hMle hMlen;refine⟨_,rfl,_,rfl,a,ns,M,rfl,s3'.seq hS3,⟨hMpos,hMle⟩,fun D4 qs H4 s4 hd4 hqp hqb _=>?_⟩;have s24:=s3.trans (s3'.trans s4);have hRw2:zP ad.Web H2 x tp n ms ls p q' m0 ps:=⟨hW,hokm,hm0,hway,hps,hpm⟩;have htext:∀ {r:List Nat×List (List Nat)},r∈Dt.rws ms p q' ps->(Dt.rX r).length=ls.length+n-1∧Wd.fS (Dt.rX r) n=r.2∧r.2.Perm ms∧Hg.Tr Wd.beg Wd.fin r.1 r.2 (Dt.reF p q' r.1):=fun {r} hr=>by
   obtain⟨h1,h2,h3⟩:=Dt.Fh hmsn hr;refine⟨?_,(Wd.tN (n:=n) (by omega) r.2.length rfl h3 (hpl _ h1) fun w hw=>hmsl w (h2.mem_iff.mp hw)).1,h2,h3⟩
   have:=hpl _ h1
   have:=h2.length_eq
   unfold Dt.rX;rw[aq,aR];omega
  refine⟨D4,rfl,⟨_,SqL.of hd4⟩,?_⟩;refine fH (K:=K) (a:=D4) (xs:=qs.map V.int) (fun i σ G=>aJ H2 G∧G D4=some (.lst (qs.map V.int))∧∃ (bf:List Nat) (v5 v6:Option V),(∀ (z:Int) (j:Nat) (r:List Nat×List (List Nat)),qs[i]?=some z->z=(j:Int)->(Dt.rws ms p q' ps)[j]?=some r->bf<Dt.rX r)∧σ=[some (.ref a),some (.ref D),some (.ref x),some (.int (M:Nat)),some (T bf),v5,v6,none]) ⟨s24,hd4,[],none,none,fun z j r _ _ hr=>?first,rfl⟩ (fun i σ G _ h=>SqL.of h.2.1) ?_ ?_
  case first =>
   have h1:=(htext (ay hr)).1
   have:=cj.mpr hne
   cases h2:Dt.rX r with
   | nil=>rw[h2,gj] at h1;omega
   | cons c r=>exact List.nil_lt_cons c r
  ·rintro i y σ G hi ⟨sG,hdG,bf,v5,v6,hbf,rfl⟩
   obtain⟨z,hzi,rfl⟩:∃ z,qs[i]?=some z∧V.int z=y:=by rw[al] at hi;exact bi.mp hi
   have hzb:=hqb z (ay hzi);obtain⟨j,hj⟩:∃ j:Nat,z=(j:Int):=⟨z.toNat,by omega⟩;subst hj;have hjM:j<M:=by omega
   obtain⟨r,hr'⟩:∃ r,(Dt.rws ms p q' ps)[j]?=some r:=⟨_,aa (by rw[hMlen];exact hjM)⟩;obtain⟨htl,hwin,hup,hut⟩:=htext (ay hr');have hlt:=hbf _ j r hzi rfl hr';refine⟨_,rfl,_,rfl,x,tp,n,ms,ls,p,q',m0,ps,(j:Int),rfl,hRw2.on sG,fun z=>absurd ⟨by omega,by rw[hcn];omega⟩ z,fun j2 r2 e2 hr2 G1 s5=>?_⟩;obtain rfl:j=j2:=by omega
   obtain rfl:r2=r:=by rw[hr'] at hr2;exact (ba hr2).symm
   have sG1:=sG.trans s5;refine⟨_,rfl,_,rfl,D,ls,Dt.rX r2,n,rfl,SqL.of (sG1 D _ hd2),⟨hne,by omega,by omega,fun w hw=>(hwl.1 w hw).1⟩,htl,by rw[hwin];exact hup.trans hp2,fun G2 s6=>?_⟩;refine⟨_,rfl,oF ?_⟩;have sG2:=sG1.trans s6;refine⟨_,rfl,_,rfl,x,tp,n,ms,ls,p,q',m0,ps,Dt.rX r2,rfl,hRw2.on sG2,hw2,by omega,fun z=>absurd (by rw[hwin];exact hup) z,fun _=>⟨r2.1,r2.2,rfl,hup,hut,fun G3 s7=>?_⟩⟩;rw[Dt.Uu hmsn hw2 hwl1' hps hpl (show (Dt.rws ms p q' ps)[j]?=some (r2.1,r2.2) from hr')];refine⟨_,rfl,_,rfl,_,rfl,?_⟩;refine oF ?_;refine⟨_,rfl,_,rfl,_,rfl,_,rfl,_,rfl,?_⟩;refine itN (by rw[decide_eq_true hlt];exact ak) ?_;have sG3:=sG2.trans s7;refine⟨_,rfl,sG3,(s5.trans (s6.trans s7)) D4 _ hdG,Dt.rX r2,_,_,fun z' j' r' hz' hj' hr3=>?_,rfl⟩;subst hj';have hjj:j<j':=by
    have h1:=gy.mp hqp i (i+1) (ag.mp hzi).1 (ag.mp hz').1 (by omega);rw[(ag.mp hzi).2,(ag.mp hz').2] at h1;omega
   have h2:=gy.mp (Dt.Fm (p:=p) (q:=q') hmsn hw2 hwl1' hps hpl) j j' (ag.mp hr').1 (ag.mp hr3).1 hjj;rw[(ag.mp hr').2,(ag.mp hr3).2] at h2;exact h2
  ·rintro σ G ⟨sG,hdG,bf,v5,v6,hbf,rfl⟩
   have hxl:∀ l∈ls,1<=l.length∧l.length<=1000:=fun l hl=>by have:=(hwl.1 l hl).1;omega
   obtain⟨w0,hw0⟩:∃ w0,ls[0]?=some w0:=⟨ls[0]'(cj.mpr hne),aa _⟩;have hw0l:=hxl w0 (ay hw0);have e0:p=beg w0:=by
    cases ls with
    | nil=>exact absurd rfl hne
    | cons x xs =>
     have:x=w0:=by simpa using hw0
     rw[<- this];exact htr.1.symm
   have hdG2:=sG D _ hd2;refine⟨_,rfl,D,_,_,_,rfl,rfl,SqL.of hdG2,(cD (j:=0) (by rw[al,hw0];rfl)),_,rfl,_,rfl,_,rfl,(by omega),?_⟩;rw[show gC w0 none (some (-(1:Int)))=beg w0 from oV hw0l.1,<- e0];refine⟨rfl,_,rfl,D,rfl,⟨_,SqL.of hdG2⟩,?_⟩;refine nP (fun v=>T [Wd.dQ (unT v)]) (cI (SqL.of hdG2)) (by rw[aR];omega) (fun v G2 hv s8 N hN=>?_) fun D8 G8 hD8 s8 hd8=>?_
   ·obtain⟨l,hl,rfl⟩:=au.mp hv
    have hll:=hxl l hl;have z:=hN G2 (aJ.refl _);rw[dS] at z;exact⟨_,rfl,_,rfl,_,rfl,_,rfl,(by omega),Wd.dQ l,Hf hll.1,z⟩
   rw[lJ (f:=fun l=>T [Wd.dQ l]),show ls.map (fun l=>T [Wd.dQ l])=(ls.map fun l=>[Wd.dQ l]).map T by rw[br];rfl] at hd8;have hflat0:∀ l:List (List Nat),(l.map fun l=>[Wd.dQ l]).flatten=l.map Wd.dQ:=fun l=>by
    induction l with
    | nil=>rfl
    | cons y l ih=>rw[am,kh,ih];rfl
   have hflat:=hflat0 ls;refine⟨rfl,D8,_,rfl,SqL.of hd8,(by rw[hflat,aR];omega),?_⟩;rw[hflat];have hpl1:=hpl p hpp;refine⟨_,rfl,_,rfl,(by rw[aR];omega),?_⟩;have hrx:p++ls.map Wd.dQ=Dt.rX (p,ls):=rfl;rw[hrx];obtain⟨htl,hwin,hup,hut⟩:=htext (ay hmine);have sG8:=sG.trans s8;have hNl:=(ag.mp hmine).1;rw[hMlen] at hNl;refine⟨_,rfl,_,rfl,x,tp,n,ms,ls,p,q',m0,ps,Dt.rX (p,ls),rfl,hRw2.on sG8,hw2,by omega,fun z=>absurd (by rw[hwin];exact hup) z,fun _=>⟨p,ls,rfl,hup,hut,fun G9 s9=>?_⟩⟩;have sG9:=sG8.trans s9;refine⟨_,rfl,_,rfl,_,rfl,?_⟩;refine⟨_,rfl,rW ?_⟩;refine⟨_,rfl,_,_,rfl,rfl,_,rfl,?_⟩;refine itP (decide_eq_true (by omega)) ?_;refine⟨_,rfl,_,_,rfl,rfl,_,rfl,?_⟩;refine itP (decide_eq_true (by omega)) ?_;refine⟨_,rfl,_,rfl,x,tp,n,ms,ls,p,q',m0,ps,_,rfl,hRw2.on sG9,fun z=>absurd ⟨by omega,by rw[hcn];omega⟩ z,fun j2 r2 e2 hr2 G10 s10=>?_⟩;obtain rfl:Dt.rn ms p q' ps p ls=j2:=by omega
   obtain rfl:r2=(p,ls):=by rw[hmine] at hr2;exact (ba hr2).symm
   refine⟨_,rfl,_,rfl,_,rfl,?_⟩;rw[decide_eq_true rfl];exact q _
end
theorem all_mk {l:n9}{w:World}{K:ae}{h:Heap}{mg:Str->Option Value}{fa:Addr}(X:K.In h)(G:h.Ns mainGlobals mg)(hfa:mg "law" = some (.ref fa))
  {f_0:Addr} {od_0 an_0:Option Addr} {sl_0:Array (Option Value)} {oc_0 kV_0 dc_0 pm_0 cd_0 ct_0:Value}
  {f_1:Addr} {od_1 an_1:Option Addr} {sl_1:Array (Option Value)} {oc_1 kV_1 dc_1 pm_1 cd_1 ct_1:Value}
  {f_2:Addr} {od_2 an_2:Option Addr} {sl_2:Array (Option Value)} {oc_2 kV_2 dc_2 pm_2 cd_2 ct_2:Value}
  {f_3:Addr} {od_3 an_3:Option Addr} {sl_3:Array (Option Value)} {oc_3 kV_3 dc_3 pm_3 cd_3 ct_3:Value}
  {f_4:Addr} {od_4 an_4:Option Addr} {sl_4:Array (Option Value)} {oc_4 kV_4 dc_4 pm_4 cd_4 ct_4:Value}
  {f_5:Addr} {od_5 an_5:Option Addr} {sl_5:Array (Option Value)} {oc_5 kV_5 dc_5 pm_5 cd_5 ct_5:Value}
  {f_6:Addr} {od_6 an_6:Option Addr} {sl_6:Array (Option Value)} {oc_6 kV_6 dc_6 pm_6 cd_6 ct_6:Value}
  {f_7:Addr} {od_7 an_7:Option Addr} {sl_7:Array (Option Value)} {oc_7 kV_7 dc_7 pm_7 cd_7 ct_7:Value}
  {f_8:Addr} {od_8 an_8:Option Addr} {sl_8:Array (Option Value)} {oc_8 kV_8 dc_8 pm_8 cd_8 ct_8:Value}
  {f_9:Addr} {od_9 an_9:Option Addr} {sl_9:Array (Option Value)} {oc_9 kV_9 dc_9 pm_9 cd_9 ct_9:Value}
  {f_10:Addr} {od_10 an_10:Option Addr} {sl_10:Array (Option Value)} {oc_10 kV_10 dc_10 pm_10 cd_10 ct_10:Value}
  {f_11:Addr} {od_11 an_11:Option Addr} {sl_11:Array (Option Value)} {oc_11 kV_11 dc_11 pm_11 cd_11 ct_11:Value}
  {f_12:Addr} {od_12 an_12:Option Addr} {sl_12:Array (Option Value)} {oc_12 kV_12 dc_12 pm_12 cd_12 ct_12:Value}
  {f_13:Addr} {od_13 an_13:Option Addr} {sl_13:Array (Option Value)} {oc_13 kV_13 dc_13 pm_13 cd_13 ct_13:Value}
  {f_14:Addr} {od_14 an_14:Option Addr} {sl_14:Array (Option Value)} {oc_14 kV_14 dc_14 pm_14 cd_14 ct_14:Value}
  {f_15:Addr} {od_15 an_15:Option Addr} {sl_15:Array (Option Value)} {oc_15 kV_15 dc_15 pm_15 cd_15 ct_15:Value}
  {f_16:Addr} {od_16 an_16:Option Addr} {sl_16:Array (Option Value)} {oc_16 kV_16 dc_16 pm_16 cd_16 ct_16:Value}
  {f_17:Addr} {od_17 an_17:Option Addr} {sl_17:Array (Option Value)} {oc_17 kV_17 dc_17 pm_17 cd_17 ct_17:Value}
  {f_18:Addr} {od_18 an_18:Option Addr} {sl_18:Array (Option Value)} {oc_18 kV_18 dc_18 pm_18 cd_18 ct_18:Value}
  {f_19:Addr} {od_19 an_19:Option Addr} {sl_19:Array (Option Value)} {oc_19 kV_19 dc_19 pm_19 cd_19 ct_19:Value}
  {f_20:Addr} {od_20 an_20:Option Addr} {sl_20:Array (Option Value)} {oc_20 kV_20 dc_20 pm_20 cd_20 ct_20:Value}
  {f_21:Addr} {od_21 an_21:Option Addr} {sl_21:Array (Option Value)} {oc_21 kV_21 dc_21 pm_21 cd_21 ct_21:Value}
  {f_22:Addr} {od_22 an_22:Option Addr} {sl_22:Array (Option Value)} {oc_22 kV_22 dc_22 pm_22 cd_22 ct_22:Value}
  {f_23:Addr} {od_23 an_23:Option Addr} {sl_23:Array (Option Value)} {oc_23 kV_23 dc_23 pm_23 cd_23 ct_23:Value}
  {f_24:Addr} {od_24 an_24:Option Addr} {sl_24:Array (Option Value)} {oc_24 kV_24 dc_24 pm_24 cd_24 ct_24:Value}
  {f_25:Addr} {od_25 an_25:Option Addr} {sl_25:Array (Option Value)} {oc_25 kV_25 dc_25 pm_25 cd_25 ct_25:Value}
  {f_26:Addr} {od_26 an_26:Option Addr} {sl_26:Array (Option Value)} {oc_26 kV_26 dc_26 pm_26 cd_26 ct_26:Value}
  {f_27:Addr} {od_27 an_27:Option Addr} {sl_27:Array (Option Value)} {oc_27 kV_27 dc_27 pm_27 cd_27 ct_27:Value}
  {f_28:Addr} {od_28 an_28:Option Addr} {sl_28:Array (Option Value)} {oc_28 kV_28 dc_28 pm_28 cd_28 ct_28:Value}
  {f_29:Addr} {od_29 an_29:Option Addr} {sl_29:Array (Option Value)} {oc_29 kV_29 dc_29 pm_29 cd_29 ct_29:Value}
  {f_30:Addr} {od_30 an_30:Option Addr} {sl_30:Array (Option Value)} {oc_30 kV_30 dc_30 pm_30 cd_30 ct_30:Value}
  {f_31:Addr} {od_31 an_31:Option Addr} {sl_31:Array (Option Value)} {oc_31 kV_31 dc_31 pm_31 cd_31 ct_31:Value}
  {f_32:Addr} {od_32 an_32:Option Addr} {sl_32:Array (Option Value)} {oc_32 kV_32 dc_32 pm_32 cd_32 ct_32:Value}
  {f_33:Addr} {od_33 an_33:Option Addr} {sl_33:Array (Option Value)} {oc_33 kV_33 dc_33 pm_33 cd_33 ct_33:Value}
  {f_34:Addr} {od_34 an_34:Option Addr} {sl_34:Array (Option Value)} {oc_34 kV_34 dc_34 pm_34 cd_34 ct_34:Value}
  {f_35:Addr} {od_35 an_35:Option Addr} {sl_35:Array (Option Value)} {oc_35 kV_35 dc_35 pm_35 cd_35 ct_35:Value}
  {f_36:Addr} {od_36 an_36:Option Addr} {sl_36:Array (Option Value)} {oc_36 kV_36 dc_36 pm_36 cd_36 ct_36:Value}
  {f_37:Addr} {od_37 an_37:Option Addr} {sl_37:Array (Option Value)} {oc_37 kV_37 dc_37 pm_37 cd_37 ct_37:Value}
  {f_38:Addr} {od_38 an_38:Option Addr} {sl_38:Array (Option Value)} {oc_38 kV_38 dc_38 pm_38 cd_38 ct_38:Value}
  {f_39:Addr} {od_39 an_39:Option Addr} {sl_39:Array (Option Value)} {oc_39 kV_39 dc_39 pm_39 cd_39 ct_39:Value}
  {f_40:Addr} {od_40 an_40:Option Addr} {sl_40:Array (Option Value)} {oc_40 kV_40 dc_40 pm_40 cd_40 ct_40:Value}
  {f_41:Addr} {od_41 an_41:Option Addr} {sl_41:Array (Option Value)} {oc_41 kV_41 dc_41 pm_41 cd_41 ct_41:Value}
  {f_42:Addr} {od_42 an_42:Option Addr} {sl_42:Array (Option Value)} {oc_42 kV_42 dc_42 pm_42 cd_42 ct_42:Value}
  {f_43:Addr} {od_43 an_43:Option Addr} {sl_43:Array (Option Value)} {oc_43 kV_43 dc_43 pm_43 cd_43 ct_43:Value}
  {f_44:Addr} {od_44 an_44:Option Addr} {sl_44:Array (Option Value)} {oc_44 kV_44 dc_44 pm_44 cd_44 ct_44:Value}
  {f_45:Addr} {od_45 an_45:Option Addr} {sl_45:Array (Option Value)} {oc_45 kV_45 dc_45 pm_45 cd_45 ct_45:Value}
  {f_46:Addr} {od_46 an_46:Option Addr} {sl_46:Array (Option Value)} {oc_46 kV_46 dc_46 pm_46 cd_46 ct_46:Value}
  {f_47:Addr} {od_47 an_47:Option Addr} {sl_47:Array (Option Value)} {oc_47 kV_47 dc_47 pm_47 cd_47 ct_47:Value}
  {f_48:Addr} {od_48 an_48:Option Addr} {sl_48:Array (Option Value)} {oc_48 kV_48 dc_48 pm_48 cd_48 ct_48:Value}
  {f_49:Addr} {od_49 an_49:Option Addr} {sl_49:Array (Option Value)} {oc_49 kV_49 dc_49 pm_49 cd_49 ct_49:Value}
  {f_50:Addr} {od_50 an_50:Option Addr} {sl_50:Array (Option Value)} {oc_50 kV_50 dc_50 pm_50 cd_50 ct_50:Value}
  {f_51:Addr} {od_51 an_51:Option Addr} {sl_51:Array (Option Value)} {oc_51 kV_51 dc_51 pm_51 cd_51 ct_51:Value}
  {c_BadKinds:Addr}
  {c_BadWord:Addr}
  {c_TooMany:Addr}
  {c_NoSuch:Addr}
  {c_NotOne:Addr}
  {c_Web:Addr}
  {c_KNOWN_TIMES:Addr}
  {u_FIRST_PRIME:Value}
  {u_STEP:Value}
  {u_LETTERS:Value}
  {u_LONGEST:Value}
  {u_MOST_OF_A_WEB:Value}
  {u_LONGEST_OF_A_WEB:Value}
  (a_0:ao K mainGlobals "further_times" = some (some (.ref f_0))) (l_0:K.lookup f_0=some ⟨oc_0,od_0,.func (a0 "further_times" "further_times" (aQ cX) (aP cX) (aD cX) .none kV_0 dc_0 pm_0 an_0 cd_0 ct_0),sl_0⟩) (c_0:ax K cd_0 "further_times" = true) (k_0:av K (.ref f_0)=true)
  (a_1:ao K mainGlobals "inverse" = some (some (.ref f_1))) (l_1:K.lookup f_1=some ⟨oc_1,od_1,.func (a0 "inverse" "inverse" (aQ iF) (aP iF) (aD iF) .none kV_1 dc_1 pm_1 an_1 cd_1 ct_1),sl_1⟩) (c_1:ax K cd_1 "inverse" = true) (k_1:av K (.ref f_1)=true)
  (a_2:ao K mainGlobals "lowered" = some (some (.ref f_2))) (l_2:K.lookup f_2=some ⟨oc_2,od_2,.func (a0 "lowered" "lowered" (aQ gN) (aP gN) (aD gN) .none kV_2 dc_2 pm_2 an_2 cd_2 ct_2),sl_2⟩) (c_2:ax K cd_2 "lowered" = true) (k_2:av K (.ref f_2)=true)
  (a_3:ao K mainGlobals "first_other_than_nought" = some (some (.ref f_3))) (l_3:K.lookup f_3=some ⟨oc_3,od_3,.func (a0 "first_other_than_nought" "first_other_than_nought" (aQ bH) (aP bH) (aD bH) .none kV_3 dc_3 pm_3 an_3 cd_3 ct_3),sl_3⟩) (c_3:ax K cd_3 "first_other_than_nought" = true) (k_3:av K (.ref f_3)=true)
  (a_4:ao K mainGlobals "determinant_rest" = some (some (.ref f_4))) (l_4:K.lookup f_4=some ⟨oc_4,od_4,.func (a0 "determinant_rest" "determinant_rest" (aQ bI) (aP bI) (aD bI) .none kV_4 dc_4 pm_4 an_4 cd_4 ct_4),sl_4⟩) (c_4:ax K cd_4 "determinant_rest" = true) (k_4:av K (.ref f_4)=true)
  (a_5:ao K mainGlobals "greatest_of" = some (some (.ref f_5))) (l_5:K.lookup f_5=some ⟨oc_5,od_5,.func (a0 "greatest_of" "greatest_of" (aQ dB) (aP dB) (aD dB) .none kV_5 dc_5 pm_5 an_5 cd_5 ct_5),sl_5⟩) (c_5:ax K cd_5 "greatest_of" = true) (k_5:av K (.ref f_5)=true)
  (a_6:ao K mainGlobals "determinant" = some (some (.ref f_6))) (l_6:K.lookup f_6=some ⟨oc_6,od_6,.func (a0 "determinant" "determinant" (aQ eF) (aP eF) (aD eF) .none kV_6 dc_6 pm_6 an_6 cd_6 ct_6),sl_6⟩) (c_6:ax K cd_6 "determinant" = true) (k_6:av K (.ref f_6)=true)
  (a_7:ao K mainGlobals "looked_kinds" = some (some (.ref f_7))) (l_7:K.lookup f_7=some ⟨oc_7,od_7,.func (a0 "looked_kinds" "looked_kinds" (aQ dR) (aP dR) (aD dR) .none kV_7 dc_7 pm_7 an_7 cd_7 ct_7),sl_7⟩) (c_7:ax K cd_7 "looked_kinds" = true) (k_7:av K (.ref f_7)=true)
  (a_8:ao K mainGlobals "looked_length" = some (some (.ref f_8))) (l_8:K.lookup f_8=some ⟨oc_8,od_8,.func (a0 "looked_length" "looked_length" (aQ cZ) (aP cZ) (aD cZ) .none kV_8 dc_8 pm_8 an_8 cd_8 ct_8),sl_8⟩) (c_8:ax K cd_8 "looked_length" = true) (k_8:av K (.ref f_8)=true)
  (a_9:ao K mainGlobals "letters" = some (some (.ref f_9))) (l_9:K.lookup f_9=some ⟨oc_9,od_9,.func (a0 "letters" "letters" (aQ iE) (aP iE) (aD iE) .none kV_9 dc_9 pm_9 an_9 cd_9 ct_9),sl_9⟩) (c_9:ax K cd_9 "letters" = true) (k_9:av K (.ref f_9)=true)
  (a_10:ao K mainGlobals "looked" = some (some (.ref f_10))) (l_10:K.lookup f_10=some ⟨oc_10,od_10,.func (a0 "looked" "looked" (aQ jQ) (aP jQ) (aD jQ) .none kV_10 dc_10 pm_10 an_10 cd_10 ct_10),sl_10⟩) (c_10:ax K cd_10 "looked" = true) (k_10:av K (.ref f_10)=true)
  (a_11:ao K mainGlobals "row_windows" = some (some (.ref f_11))) (l_11:K.lookup f_11=some ⟨oc_11,od_11,.func (a0 "row_windows" "row_windows" (aQ dD) (aP dD) (aD dD) .none kV_11 dc_11 pm_11 an_11 cd_11 ct_11),sl_11⟩) (c_11:ax K cd_11 "row_windows" = true) (k_11:av K (.ref f_11)=true)
  (a_12:ao K mainGlobals "ring_windows" = some (some (.ref f_12))) (l_12:K.lookup f_12=some ⟨oc_12,od_12,.func (a0 "ring_windows" "ring_windows" (aQ cT) (aP cT) (aD cT) .none kV_12 dc_12 pm_12 an_12 cd_12 ct_12),sl_12⟩) (c_12:ax K cd_12 "ring_windows" = true) (k_12:av K (.ref f_12)=true)
  (a_13:ao K mainGlobals "windows" = some (some (.ref f_13))) (l_13:K.lookup f_13=some ⟨oc_13,od_13,.func (a0 "windows" "windows" (aQ iC) (aP iC) (aD iC) .none kV_13 dc_13 pm_13 an_13 cd_13 ct_13),sl_13⟩) (c_13:ax K cd_13 "windows" = true) (k_13:av K (.ref f_13)=true)
  (a_14:ao K mainGlobals "looked_web" = some (some (.ref f_14))) (l_14:K.lookup f_14=some ⟨oc_14,od_14,.func (a0 "looked_web" "looked_web" (aQ eV) (aP eV) (aD eV) .none kV_14 dc_14 pm_14 an_14 cd_14 ct_14),sl_14⟩) (c_14:ax K cd_14 "looked_web" = true) (k_14:av K (.ref f_14)=true)
  (a_15:dz K (.ref c_Web) "__init__" = some (some (.ref f_15))) (l_15:K.lookup f_15=some ⟨oc_15,od_15,.func (a0 "__init__" "Web.__init__" (aQ gL) (aP gL) (aD gL) .none kV_15 dc_15 pm_15 an_15 cd_15 ct_15),sl_15⟩) (c_15:ax K cd_15 "Web.__init__" = true) (k_15:av K (.ref f_15)=true) (i_Web_init:tz K (.ref f_15)=true)
  (a_16:ao K mainGlobals "begin_of" = some (some (.ref f_16))) (l_16:K.lookup f_16=some ⟨oc_16,od_16,.func (a0 "begin_of" "begin_of" (aQ gJ) (aP gJ) (aD gJ) .none kV_16 dc_16 pm_16 an_16 cd_16 ct_16),sl_16⟩) (c_16:ax K cd_16 "begin_of" = true) (k_16:av K (.ref f_16)=true)
  (a_17:ao K mainGlobals "end_of" = some (some (.ref f_17))) (l_17:K.lookup f_17=some ⟨oc_17,od_17,.func (a0 "end_of" "end_of" (aQ jL) (aP jL) (aD jL) .none kV_17 dc_17 pm_17 an_17 cd_17 ct_17),sl_17⟩) (c_17:ax K cd_17 "end_of" = true) (k_17:av K (.ref f_17)=true)
  (a_18:ao K mainGlobals "pieces" = some (some (.ref f_18))) (l_18:K.lookup f_18=some ⟨oc_18,od_18,.func (a0 "pieces" "pieces" (aQ gY) (aP gY) (aD gY) .none kV_18 dc_18 pm_18 an_18 cd_18 ct_18),sl_18⟩) (c_18:ax K cd_18 "pieces" = true) (k_18:av K (.ref f_18)=true)
  (a_19:ao K mainGlobals "outs" = some (some (.ref f_19))) (l_19:K.lookup f_19=some ⟨oc_19,od_19,.func (a0 "outs" "outs" (aQ mJ) (aP mJ) (aD mJ) .none kV_19 dc_19 pm_19 an_19 cd_19 ct_19),sl_19⟩) (c_19:ax K cd_19 "outs" = true) (k_19:av K (.ref f_19)=true)
  (a_20:ao K mainGlobals "excess" = some (some (.ref f_20))) (l_20:K.lookup f_20=some ⟨oc_20,od_20,.func (a0 "excess" "excess" (aQ gT) (aP gT) (aD gT) .none kV_20 dc_20 pm_20 an_20 cd_20 ct_20),sl_20⟩) (c_20:ax K cd_20 "excess" = true) (k_20:av K (.ref f_20)=true)
  (a_21:ao K mainGlobals "hanging_by" = some (some (.ref f_21))) (l_21:K.lookup f_21=some ⟨oc_21,od_21,.func (a0 "hanging_by" "hanging_by" (aQ fD) (aP fD) (aD fD) .none kV_21 dc_21 pm_21 an_21 cd_21 ct_21),sl_21⟩) (c_21:ax K cd_21 "hanging_by" = true) (k_21:av K (.ref f_21)=true)
  (a_22:ao K mainGlobals "hanging" = some (some (.ref f_22))) (l_22:K.lookup f_22=some ⟨oc_22,od_22,.func (a0 "hanging" "hanging" (aQ iB) (aP iB) (aD iB) .none kV_22 dc_22 pm_22 an_22 cd_22 ct_22),sl_22⟩) (c_22:ax K cd_22 "hanging" = true) (k_22:av K (.ref f_22)=true)
  (a_23:ao K mainGlobals "why_apart" = some (some (.ref f_23))) (l_23:K.lookup f_23=some ⟨oc_23,od_23,.func (a0 "why_apart" "why_apart" (aQ fO) (aP fO) (aD fO) .none kV_23 dc_23 pm_23 an_23 cd_23 ct_23),sl_23⟩) (c_23:ax K cd_23 "why_apart" = true) (k_23:av K (.ref f_23)=true)
  (a_24:ao K mainGlobals "why_no_ring" = some (some (.ref f_24))) (l_24:K.lookup f_24=some ⟨oc_24,od_24,.func (a0 "why_no_ring" "why_no_ring" (aQ eE) (aP eE) (aD eE) .none kV_24 dc_24 pm_24 an_24 cd_24 ct_24),sl_24⟩) (c_24:ax K cd_24 "why_no_ring" = true) (k_24:av K (.ref f_24)=true)
  (a_25:ao K mainGlobals "why_no_row" = some (some (.ref f_25))) (l_25:K.lookup f_25=some ⟨oc_25,od_25,.func (a0 "why_no_row" "why_no_row" (aQ dU) (aP dU) (aD dU) .none kV_25 dc_25 pm_25 an_25 cd_25 ct_25),sl_25⟩) (c_25:ax K cd_25 "why_no_row" = true) (k_25:av K (.ref f_25)=true)
  (a_26:ao K mainGlobals "row_ends" = some (some (.ref f_26))) (l_26:K.lookup f_26=some ⟨oc_26,od_26,.func (a0 "row_ends" "row_ends" (aQ eQ) (aP eQ) (aD eQ) .none kV_26 dc_26 pm_26 an_26 cd_26 ct_26),sl_26⟩) (c_26:ax K cd_26 "row_ends" = true) (k_26:av K (.ref f_26)=true)
  (a_27:ao K mainGlobals "is_row" = some (some (.ref f_27))) (l_27:K.lookup f_27=some ⟨oc_27,od_27,.func (a0 "is_row" "is_row" (aQ jK) (aP jK) (aD jK) .none kV_27 dc_27 pm_27 an_27 cd_27 ct_27),sl_27⟩) (c_27:ax K cd_27 "is_row" = true) (k_27:av K (.ref f_27)=true)
  (a_28:ao K mainGlobals "without" = some (some (.ref f_28))) (l_28:K.lookup f_28=some ⟨oc_28,od_28,.func (a0 "without" "without" (aQ gI) (aP gI) (aD gI) .none kV_28 dc_28 pm_28 an_28 cd_28 ct_28),sl_28⟩) (c_28:ax K cd_28 "without" = true) (k_28:av K (.ref f_28)=true)
  (a_29:ao K mainGlobals "choice_row" = some (some (.ref f_29))) (l_29:K.lookup f_29=some ⟨oc_29,od_29,.func (a0 "choice_row" "choice_row" (aQ dA) (aP dA) (aD dA) .none kV_29 dc_29 pm_29 an_29 cd_29 ct_29),sl_29⟩) (c_29:ax K cd_29 "choice_row" = true) (k_29:av K (.ref f_29)=true)
  (a_30:ao K mainGlobals "choices_counted" = some (some (.ref f_30))) (l_30:K.lookup f_30=some ⟨oc_30,od_30,.func (a0 "choices_counted" "choices_counted" (aQ bY) (aP bY) (aD bY) .none kV_30 dc_30 pm_30 an_30 cd_30 ct_30),sl_30⟩) (c_30:ax K cd_30 "choices_counted" = true) (k_30:av K (.ref f_30)=true)
  (a_31:ao K mainGlobals "is_even" = some (some (.ref f_31))) (l_31:K.lookup f_31=some ⟨oc_31,od_31,.func (a0 "is_even" "is_even" (aQ fQ) (aP fQ) (aD fQ) .none kV_31 dc_31 pm_31 an_31 cd_31 ct_31),sl_31⟩) (c_31:ax K cd_31 "is_even" = true) (k_31:av K (.ref f_31)=true)
  (a_32:ao K mainGlobals "by_begin" = some (some (.ref f_32))) (l_32:K.lookup f_32=some ⟨oc_32,od_32,.func (a0 "by_begin" "by_begin" (aQ gK) (aP gK) (aD gK) .none kV_32 dc_32 pm_32 an_32 cd_32 ct_32),sl_32⟩) (c_32:ax K cd_32 "by_begin" = true) (k_32:av K (.ref f_32)=true)
  (a_33:ao K mainGlobals "product_up_to" = some (some (.ref f_33))) (l_33:K.lookup f_33=some ⟨oc_33,od_33,.func (a0 "product_up_to" "product_up_to" (aQ cY) (aP cY) (aD cY) .none kV_33 dc_33 pm_33 an_33 cd_33 ct_33),sl_33⟩) (c_33:ax K cd_33 "product_up_to" = true) (k_33:av K (.ref f_33)=true)
  (a_34:ao K mainGlobals "ways_on" = some (some (.ref f_34))) (l_34:K.lookup f_34=some ⟨oc_34,od_34,.func (a0 "ways_on" "ways_on" (aQ iG) (aP iG) (aD iG) .none kV_34 dc_34 pm_34 an_34 cd_34 ct_34),sl_34⟩) (c_34:ax K cd_34 "ways_on" = true) (k_34:av K (.ref f_34)=true)
  (a_35:ao K mainGlobals "way_by" = some (some (.ref f_35))) (l_35:K.lookup f_35=some ⟨oc_35,od_35,.func (a0 "way_by" "way_by" (aQ jS) (aP jS) (aD jS) .none kV_35 dc_35 pm_35 an_35 cd_35 ct_35),sl_35⟩) (c_35:ax K cd_35 "way_by" = true) (k_35:av K (.ref f_35)=true)
  (a_36:ao K mainGlobals "way_number" = some (some (.ref f_36))) (l_36:K.lookup f_36=some ⟨oc_36,od_36,.func (a0 "way_number" "way_number" (aQ fB) (aP fB) (aD fB) .none kV_36 dc_36 pm_36 an_36 cd_36 ct_36),sl_36⟩) (c_36:ax K cd_36 "way_number" = true) (k_36:av K (.ref f_36)=true)
  (a_37:ao K mainGlobals "ring_count" = some (some (.ref f_37))) (l_37:K.lookup f_37=some ⟨oc_37,od_37,.func (a0 "ring_count" "ring_count" (aQ fE) (aP fE) (aD fE) .none kV_37 dc_37 pm_37 an_37 cd_37 ct_37),sl_37⟩) (c_37:ax K cd_37 "ring_count" = true) (k_37:av K (.ref f_37)=true)
  (a_38:ao K mainGlobals "row_counts" = some (some (.ref f_38))) (l_38:K.lookup f_38=some ⟨oc_38,od_38,.func (a0 "row_counts" "row_counts" (aQ eY) (aP eY) (aD eY) .none kV_38 dc_38 pm_38 an_38 cd_38 ct_38),sl_38⟩) (c_38:ax K cd_38 "row_counts" = true) (k_38:av K (.ref f_38)=true)
  (a_39:ao K mainGlobals "row_count" = some (some (.ref f_39))) (l_39:K.lookup f_39=some ⟨oc_39,od_39,.func (a0 "row_count" "row_count" (aQ fR) (aP fR) (aD fR) .none kV_39 dc_39 pm_39 an_39 cd_39 ct_39),sl_39⟩) (c_39:ax K cd_39 "row_count" = true) (k_39:av K (.ref f_39)=true)
  (a_40:ao K mainGlobals "row_end" = some (some (.ref f_40))) (l_40:K.lookup f_40=some ⟨oc_40,od_40,.func (a0 "row_end" "row_end" (aQ iH) (aP iH) (aD iH) .none kV_40 dc_40 pm_40 an_40 cd_40 ct_40),sl_40⟩) (c_40:ax K cd_40 "row_end" = true) (k_40:av K (.ref f_40)=true)
  (a_41:ao K mainGlobals "row_by" = some (some (.ref f_41))) (l_41:K.lookup f_41=some ⟨oc_41,od_41,.func (a0 "row_by" "row_by" (aQ jF) (aP jF) (aD jF) .none kV_41 dc_41 pm_41 an_41 cd_41 ct_41),sl_41⟩) (c_41:ax K cd_41 "row_by" = true) (k_41:av K (.ref f_41)=true)
  (a_42:ao K mainGlobals "row_number" = some (some (.ref f_42))) (l_42:K.lookup f_42=some ⟨oc_42,od_42,.func (a0 "row_number" "row_number" (aQ dY) (aP dY) (aD dY) .none kV_42 dc_42 pm_42 an_42 cd_42 ct_42),sl_42⟩) (c_42:ax K cd_42 "row_number" = true) (k_42:av K (.ref f_42)=true)
  (a_43:ao K mainGlobals "_law_cell_at" = some (some (.ref f_43))) (l_43:K.lookup f_43=some ⟨oc_43,od_43,.func (a0 "_law_cell_at" "_law_cell_at" (aQ dG) (aP dG) (aD dG) .none kV_43 dc_43 pm_43 an_43 cd_43 ct_43),sl_43⟩) (c_43:ax K cd_43 "_law_cell_at" = true) (k_43:av K (.ref f_43)=true)
  (a_44:ao K mainGlobals "_law_whole" = some (some (.ref f_44))) (l_44:K.lookup f_44=some ⟨oc_44,od_44,.func (a0 "_law_whole" "_law_whole" (aQ eU) (aP eU) (aD eU) .none kV_44 dc_44 pm_44 an_44 cd_44 ct_44),sl_44⟩) (c_44:ax K cd_44 "_law_whole" = true) (k_44:av K (.ref f_44)=true)
  (a_45:ao K mainGlobals "_law_walk" = some (some (.ref f_45))) (l_45:K.lookup f_45=some ⟨oc_45,od_45,.func (a0 "_law_walk" "_law_walk" (aQ eJ) (aP eJ) (aD eJ) .none kV_45 dc_45 pm_45 an_45 cd_45 ct_45),sl_45⟩) (c_45:ax K cd_45 "_law_walk" = true) (k_45:av K (.ref f_45)=true)
  (a_46:ao K mainGlobals "_law_ring_words" = some (some (.ref f_46))) (l_46:K.lookup f_46=some ⟨oc_46,od_46,.func (a0 "_law_ring_words" "_law_ring_words" (aQ cN) (aP cN) (aD cN) .none kV_46 dc_46 pm_46 an_46 cd_46 ct_46),sl_46⟩) (c_46:ax K cd_46 "_law_ring_words" = true) (k_46:av K (.ref f_46)=true)
  (a_47:ao K mainGlobals "_law_numbers" = some (some (.ref f_47))) (l_47:K.lookup f_47=some ⟨oc_47,od_47,.func (a0 "_law_numbers" "_law_numbers" (aQ dJ) (aP dJ) (aD dJ) .none kV_47 dc_47 pm_47 an_47 cd_47 ct_47),sl_47⟩) (c_47:ax K cd_47 "_law_numbers" = true) (k_47:av K (.ref f_47)=true)
  (a_48:ao K mainGlobals "_law_trail" = some (some (.ref f_48))) (l_48:K.lookup f_48=some ⟨oc_48,od_48,.func (a0 "_law_trail" "_law_trail" (aQ eZ) (aP eZ) (aD eZ) .none kV_48 dc_48 pm_48 an_48 cd_48 ct_48),sl_48⟩) (c_48:ax K cd_48 "_law_trail" = true) (k_48:av K (.ref f_48)=true)
  (a_49:ao K mainGlobals "_law_is_row" = some (some (.ref f_49))) (l_49:K.lookup f_49=some ⟨oc_49,od_49,.func (a0 "_law_is_row" "_law_is_row" (aQ dC) (aP dC) (aD dC) .none kV_49 dc_49 pm_49 an_49 cd_49 ct_49),sl_49⟩) (c_49:ax K cd_49 "_law_is_row" = true) (k_49:av K (.ref f_49)=true)
  (a_50:ao K mainGlobals "_law_count_right" = some (some (.ref f_50))) (l_50:K.lookup f_50=some ⟨oc_50,od_50,.func (a0 "_law_count_right" "_law_count_right" (aQ cJ) (aP cJ) (aD cJ) .none kV_50 dc_50 pm_50 an_50 cd_50 ct_50),sl_50⟩) (c_50:ax K cd_50 "_law_count_right" = true) (k_50:av K (.ref f_50)=true)
  (a_51:ao K mainGlobals "law" = some (some (.ref f_51))) (l_51:K.lookup f_51=some ⟨oc_51,od_51,.func (a0 "law" "law" (aQ lW) (aP lW) (aD lW) .none kV_51 dc_51 pm_51 an_51 cd_51 ct_51),sl_51⟩) (c_51:ax K cd_51 "law" = true) (k_51:av K (.ref f_51)=true)
  (z_abs:ao K mainGlobals "abs" = some none)
  (z_bool:ao K mainGlobals "bool" = some none)
  (z_enumerate:ao K mainGlobals "enumerate" = some none)
  (z_int:ao K mainGlobals "int" = some none)
  (z_isinstance:ao K mainGlobals "isinstance" = some none)
  (z_len:ao K mainGlobals "len" = some none)
  (z_list:ao K mainGlobals "list" = some none)
  (z_range:ao K mainGlobals "range" = some none)
  (z_set:ao K mainGlobals "set" = some none)
  (z_sorted:ao K mainGlobals "sorted" = some none)
  (z_str:ao K mainGlobals "str" = some none)
  (z_sum:ao K mainGlobals "sum" = some none)
  (z_tuple:ao K mainGlobals "tuple" = some none)
  (z_zip:ao K mainGlobals "zip" = some none)
  (y_BadKinds:ao K mainGlobals "BadKinds" = some (some (.ref c_BadKinds)))
  (y_BadWord:ao K mainGlobals "BadWord" = some (some (.ref c_BadWord)))
  (y_TooMany:ao K mainGlobals "TooMany" = some (some (.ref c_TooMany)))
  (y_NoSuch:ao K mainGlobals "NoSuch" = some (some (.ref c_NoSuch)))
  (y_NotOne:ao K mainGlobals "NotOne" = some (some (.ref c_NotOne)))
  (y_Web:ao K mainGlobals "Web" = some (some (.ref c_Web)))
  (y_KNOWN_TIMES:ao K mainGlobals "KNOWN_TIMES" = some (some (.ref c_KNOWN_TIMES)))
  (e_BadKinds:i6 K c_BadKinds Df "ValueError.__new__" = true)
  (e_BadWord:i6 K c_BadWord Df "ValueError.__new__" = true)
  (e_TooMany:i6 K c_TooMany Df "ValueError.__new__" = true)
  (e_NoSuch:i6 K c_NoSuch Df "ValueError.__new__" = true)
  (e_NotOne:i6 K c_NotOne Df "ValueError.__new__" = true)
  (g_FIRST_PRIME:ao K mainGlobals "FIRST_PRIME" = some (some u_FIRST_PRIME)) (r_FIRST_PRIME:bE (.int 2305843009213693951) u_FIRST_PRIME)
  (g_STEP:ao K mainGlobals "STEP" = some (some u_STEP)) (r_STEP:bE (.int 6277101735386680763835789423207666416102355444464034512896) u_STEP)
  (g_LETTERS:ao K mainGlobals "LETTERS" = some (some u_LETTERS)) (r_LETTERS:bE (T [97,98,99,100,101,102]) u_LETTERS)
  (g_LONGEST:ao K mainGlobals "LONGEST" = some (some u_LONGEST)) (r_LONGEST:bE (.int 24) u_LONGEST)
  (g_MOST_OF_A_WEB:ao K mainGlobals "MOST_OF_A_WEB" = some (some u_MOST_OF_A_WEB)) (r_MOST_OF_A_WEB:bE (.int 64) u_MOST_OF_A_WEB)
  (g_LONGEST_OF_A_WEB:ao K mainGlobals "LONGEST_OF_A_WEB" = some (some u_LONGEST_OF_A_WEB)) (r_LONGEST_OF_A_WEB:bE (.int 8) u_LONGEST_OF_A_WEB)
  (kt:tupIs K c_KNOWN_TIMES [133,211,598,652,721,850,1282,1417,1582,1681,1726,1837,1885,2017,2377,2383,2452,2476,2530,2611,2662,2698,2773,2878,2917,2980,2998,3082,3238,3250,3343,3421,3427,3670,3817,4162,4252,4447,4468,4621,4630,4747,4867,4891,4915,5128,5143,5236,5401,5587,5650,5803,5833,5923,5986,6202,6235,6286,6496,6526,6736,7093,7561,7696,7831,7855,7882,7927,8143,8248]=true)
  (pg_Web:ky K c_Web Str.empty=true) (hd_Web:ke K c_Web=true) (po_Web:ml K c_Web=true) (sa_Web:dz K (.ref c_Web) "__setattr__" = some (some (.builtin "object.__setattr__"))) (mk_Web:n6 K c_Web=true) (kc_Web:av K (.ref c_Web)=true)
  (na_Web_words:dz K (.ref c_Web) "words" = some none)
  (na_Web_length:dz K (.ref c_Web) "length" = some none) :
  ∃ fd:FuncData,(∀ (s:Shared) (v:Value),BindsTo s fd ⟨[v],[]⟩ [("script",v)])∧∀ base:Heap,K.In base->base.Ns mainGlobals mg->bQ l.prog w K mg base (CX1 l.prog w) 9 fa fd ["script"] (Gy K):=by
 have e:=hfa.symm.trans (ap X G a_51);cases e;have tt:Txt K mg ⟨c_BadKinds,c_BadWord,c_TooMany,c_NoSuch,c_NotOne,c_Web,c_KNOWN_TIMES,u_FIRST_PRIME,u_STEP,u_LETTERS,u_LONGEST,u_MOST_OF_A_WEB,u_LONGEST_OF_A_WEB⟩:=⟨c6 X G z_abs,c6 X G z_bool,c6 X G z_enumerate,c6 X G z_int,c6 X G z_isinstance,c6 X G z_len,c6 X G z_list,c6 X G z_range,c6 X G z_set,c6 X G z_sorted,c6 X G z_str,c6 X G z_sum,c6 X G z_tuple,c6 X G z_zip,ap X G y_BadKinds,ap X G y_BadWord,ap X G y_TooMany,ap X G y_NoSuch,ap X G y_NotOne,ap X G y_Web,ap X G y_KNOWN_TIMES,⟨ap X G y_BadKinds,e_BadKinds⟩,⟨ap X G y_BadWord,e_BadWord⟩,⟨ap X G y_TooMany,e_TooMany⟩,⟨ap X G y_NoSuch,e_NoSuch⟩,⟨ap X G y_NotOne,e_NotOne⟩,ap X G g_FIRST_PRIME,r_FIRST_PRIME,ap X G g_STEP,r_STEP,ap X G g_LETTERS,r_LETTERS,ap X G g_LONGEST,r_LONGEST,ap X G g_MOST_OF_A_WEB,r_MOST_OF_A_WEB,ap X G g_LONGEST_OF_A_WEB,r_LONGEST_OF_A_WEB,kt,⟨pg_Web,hd_Web,po_Web,sa_Web⟩,na_Web_words,na_Web_length⟩;have F_0:=aZ (st:=cX) l_0 c_0 k_0;have b_0:=F_0.binds (ps:=["place", "last"]) fun _ _ _ _ _ _ us hl=>L2.on2 (C:=fun us=>bindArgs _ ⟨us,[]⟩=pure (ce _ us)) hl fun _ _=>rfl
 have F_1:=aZ (st:=iF) l_1 c_1 k_1;have b_1:=F_1.binds (ps:=["number", "prime"]) fun _ _ _ _ _ _ us hl=>L2.on2 (C:=fun us=>bindArgs _ ⟨us,[]⟩=pure (ce _ us)) hl fun _ _=>rfl
 have F_2:=aZ (st:=gN) l_2 c_2 k_2;have b_2:=F_2.binds (ps:=["row", "top", "back", "prime"]) fun _ _ _ _ _ _ us hl=>L2.on4 (C:=fun us=>bindArgs _ ⟨us,[]⟩=pure (ce _ us)) hl fun _ _ _ _=>rfl
 have F_3:=aZ (st:=bH) l_3 c_3 k_3;have b_3:=F_3.binds (ps:=["numbers"]) fun _ _ _ _ _ _ us hl=>L2.on1 (C:=fun us=>bindArgs _ ⟨us,[]⟩=pure (ce _ us)) hl fun _=>rfl
 have F_4:=aZ (st:=bI) l_4 c_4 k_4;have b_4:=F_4.binds (ps:=["square", "prime"]) fun _ _ _ _ _ _ us hl=>L2.on2 (C:=fun us=>bindArgs _ ⟨us,[]⟩=pure (ce _ us)) hl fun _ _=>rfl
 have F_5:=aZ (st:=dB) l_5 c_5 k_5;have b_5:=F_5.binds (ps:=["square"]) fun _ _ _ _ _ _ us hl=>L2.on1 (C:=fun us=>bindArgs _ ⟨us,[]⟩=pure (ce _ us)) hl fun _=>rfl
 have F_6:=aZ (st:=eF) l_6 c_6 k_6;have b_6:=F_6.binds (ps:=["square"]) fun _ _ _ _ _ _ us hl=>L2.on1 (C:=fun us=>bindArgs _ ⟨us,[]⟩=pure (ce _ us)) hl fun _=>rfl
 have F_7:=aZ (st:=dR) l_7 c_7 k_7;have b_7:=F_7.binds (ps:=["kinds"]) fun _ _ _ _ _ _ us hl=>L2.on1 (C:=fun us=>bindArgs _ ⟨us,[]⟩=pure (ce _ us)) hl fun _=>rfl
 have F_8:=aZ (st:=cZ) l_8 c_8 k_8;have b_8:=F_8.binds (ps:=["length", "kinds"]) fun _ _ _ _ _ _ us hl=>L2.on2 (C:=fun us=>bindArgs _ ⟨us,[]⟩=pure (ce _ us)) hl fun _ _=>rfl
 have F_9:=aZ (st:=iE) l_9 c_9 k_9;have b_9:=F_9.binds (ps:=["kinds"]) fun _ _ _ _ _ _ us hl=>L2.on1 (C:=fun us=>bindArgs _ ⟨us,[]⟩=pure (ce _ us)) hl fun _=>rfl
 have F_10:=aZ (st:=jQ) l_10 c_10 k_10;have b_10:=F_10.binds (ps:=["word", "kinds"]) fun _ _ _ _ _ _ us hl=>L2.on2 (C:=fun us=>bindArgs _ ⟨us,[]⟩=pure (ce _ us)) hl fun _ _=>rfl
 have F_11:=aZ (st:=dD) l_11 c_11 k_11;have b_11:=F_11.binds (ps:=["text", "length"]) fun _ _ _ _ _ _ us hl=>L2.on2 (C:=fun us=>bindArgs _ ⟨us,[]⟩=pure (ce _ us)) hl fun _ _=>rfl
 have F_12:=aZ (st:=cT) l_12 c_12 k_12;have b_12:=F_12.binds (ps:=["text", "length"]) fun _ _ _ _ _ _ us hl=>L2.on2 (C:=fun us=>bindArgs _ ⟨us,[]⟩=pure (ce _ us)) hl fun _ _=>rfl
 have F_13:=aZ (st:=iC) l_13 c_13 k_13;have b_13:=F_13.binds (ps:=["text", "length", "ring"]) fun _ _ _ _ _ _ us hl=>L2.on3 (C:=fun us=>bindArgs _ ⟨us,[]⟩=pure (ce _ us)) hl fun _ _ _=>rfl
 have F_14:=aZ (st:=eV) l_14 c_14 k_14;have b_14:=F_14.binds (ps:=["words"]) fun _ _ _ _ _ _ us hl=>L2.on1 (C:=fun us=>bindArgs _ ⟨us,[]⟩=pure (ce _ us)) hl fun _=>rfl
 have F_15:=aZ (st:=gL) l_15 c_15 k_15;have b_15:=F_15.binds (ps:=["self", "words"]) fun _ _ _ _ _ _ us hl=>L2.on2 (C:=fun us=>bindArgs _ ⟨us,[]⟩=pure (ce _ us)) hl fun _ _=>rfl
 have F_16:=aZ (st:=gJ) l_16 c_16 k_16;have b_16:=F_16.binds (ps:=["word"]) fun _ _ _ _ _ _ us hl=>L2.on1 (C:=fun us=>bindArgs _ ⟨us,[]⟩=pure (ce _ us)) hl fun _=>rfl
 have F_17:=aZ (st:=jL) l_17 c_17 k_17;have b_17:=F_17.binds (ps:=["word"]) fun _ _ _ _ _ _ us hl=>L2.on1 (C:=fun us=>bindArgs _ ⟨us,[]⟩=pure (ce _ us)) hl fun _=>rfl
 have F_18:=aZ (st:=gY) l_18 c_18 k_18;have b_18:=F_18.binds (ps:=["web"]) fun _ _ _ _ _ _ us hl=>L2.on1 (C:=fun us=>bindArgs _ ⟨us,[]⟩=pure (ce _ us)) hl fun _=>rfl
 have F_19:=aZ (st:=mJ) l_19 c_19 k_19;have b_19:=F_19.binds (ps:=["web", "piece"]) fun _ _ _ _ _ _ us hl=>L2.on2 (C:=fun us=>bindArgs _ ⟨us,[]⟩=pure (ce _ us)) hl fun _ _=>rfl
 have F_20:=aZ (st:=gT) l_20 c_20 k_20;have b_20:=F_20.binds (ps:=["web", "some"]) fun _ _ _ _ _ _ us hl=>L2.on2 (C:=fun us=>bindArgs _ ⟨us,[]⟩=pure (ce _ us)) hl fun _ _=>rfl
 have F_21:=aZ (st:=fD) l_21 c_21 k_21;have b_21:=F_21.binds (ps:=["words", "piece"]) fun _ _ _ _ _ _ us hl=>L2.on2 (C:=fun us=>bindArgs _ ⟨us,[]⟩=pure (ce _ us)) hl fun _ _=>rfl
 have F_22:=aZ (st:=iB) l_22 c_22 k_22;have b_22:=F_22.binds (ps:=["web", "piece"]) fun _ _ _ _ _ _ us hl=>L2.on2 (C:=fun us=>bindArgs _ ⟨us,[]⟩=pure (ce _ us)) hl fun _ _=>rfl
 have F_23:=aZ (st:=fO) l_23 c_23 k_23;have b_23:=F_23.binds (ps:=["web"]) fun _ _ _ _ _ _ us hl=>L2.on1 (C:=fun us=>bindArgs _ ⟨us,[]⟩=pure (ce _ us)) hl fun _=>rfl
 have F_24:=aZ (st:=eE) l_24 c_24 k_24;have b_24:=F_24.binds (ps:=["web"]) fun _ _ _ _ _ _ us hl=>L2.on1 (C:=fun us=>bindArgs _ ⟨us,[]⟩=pure (ce _ us)) hl fun _=>rfl
 have F_25:=aZ (st:=dU) l_25 c_25 k_25;have b_25:=F_25.binds (ps:=["web"]) fun _ _ _ _ _ _ us hl=>L2.on1 (C:=fun us=>bindArgs _ ⟨us,[]⟩=pure (ce _ us)) hl fun _=>rfl
 have F_26:=aZ (st:=eQ) l_26 c_26 k_26;have b_26:=F_26.binds (ps:=["web"]) fun _ _ _ _ _ _ us hl=>L2.on1 (C:=fun us=>bindArgs _ ⟨us,[]⟩=pure (ce _ us)) hl fun _=>rfl
 have F_27:=aZ (st:=jK) l_27 c_27 k_27;have b_27:=F_27.binds (ps:=["web", "text"]) fun _ _ _ _ _ _ us hl=>L2.on2 (C:=fun us=>bindArgs _ ⟨us,[]⟩=pure (ce _ us)) hl fun _ _=>rfl
 have F_28:=aZ (st:=gI) l_28 c_28 k_28;have b_28:=F_28.binds (ps:=["words", "word"]) fun _ _ _ _ _ _ us hl=>L2.on2 (C:=fun us=>bindArgs _ ⟨us,[]⟩=pure (ce _ us)) hl fun _ _=>rfl
 have F_29:=aZ (st:=dA) l_29 c_29 k_29;have b_29:=F_29.binds (ps:=["texts", "text", "words"]) fun _ _ _ _ _ _ us hl=>L2.on3 (C:=fun us=>bindArgs _ ⟨us,[]⟩=pure (ce _ us)) hl fun _ _ _=>rfl
 have F_30:=aZ (st:=bY) l_30 c_30 k_30;have b_30:=F_30.binds (ps:=["ways"]) fun _ _ _ _ _ _ us hl=>L2.on1 (C:=fun us=>bindArgs _ ⟨us,[]⟩=pure (ce _ us)) hl fun _=>rfl
 have F_31:=aZ (st:=fQ) l_31 c_31 k_31;have b_31:=F_31.binds (ps:=["words", "one", "other"]) fun _ _ _ _ _ _ us hl=>L2.on3 (C:=fun us=>bindArgs _ ⟨us,[]⟩=pure (ce _ us)) hl fun _ _ _=>rfl
 have F_32:=aZ (st:=gK) l_32 c_32 k_32;have b_32:=F_32.binds (ps:=["words"]) fun _ _ _ _ _ _ us hl=>L2.on1 (C:=fun us=>bindArgs _ ⟨us,[]⟩=pure (ce _ us)) hl fun _=>rfl
 have F_33:=aZ (st:=cY) l_33 c_33 k_33;have b_33:=F_33.binds (ps:=["many"]) fun _ _ _ _ _ _ us hl=>L2.on1 (C:=fun us=>bindArgs _ ⟨us,[]⟩=pure (ce _ us)) hl fun _=>rfl
 have F_34:=aZ (st:=iG) l_34 c_34 k_34;have b_34:=F_34.binds (ps:=["words", "one", "other"]) fun _ _ _ _ _ _ us hl=>L2.on3 (C:=fun us=>bindArgs _ ⟨us,[]⟩=pure (ce _ us)) hl fun _ _ _=>rfl
 have F_35:=aZ (st:=jS) l_35 c_35 k_35;have b_35:=F_35.binds (ps:=["words", "one", "other", "number"]) fun _ _ _ _ _ _ us hl=>L2.on4 (C:=fun us=>bindArgs _ ⟨us,[]⟩=pure (ce _ us)) hl fun _ _ _ _=>rfl
 have F_36:=aZ (st:=fB) l_36 c_36 k_36;have b_36:=F_36.binds (ps:=["words", "order", "other"]) fun _ _ _ _ _ _ us hl=>L2.on3 (C:=fun us=>bindArgs _ ⟨us,[]⟩=pure (ce _ us)) hl fun _ _ _=>rfl
 have F_37:=aZ (st:=fE) l_37 c_37 k_37;have b_37:=F_37.binds (ps:=["web"]) fun _ _ _ _ _ _ us hl=>L2.on1 (C:=fun us=>bindArgs _ ⟨us,[]⟩=pure (ce _ us)) hl fun _=>rfl
 have F_38:=aZ (st:=eY) l_38 c_38 k_38;have b_38:=F_38.binds (ps:=["web"]) fun _ _ _ _ _ _ us hl=>L2.on1 (C:=fun us=>bindArgs _ ⟨us,[]⟩=pure (ce _ us)) hl fun _=>rfl
 have F_39:=aZ (st:=fR) l_39 c_39 k_39;have b_39:=F_39.binds (ps:=["web"]) fun _ _ _ _ _ _ us hl=>L2.on1 (C:=fun us=>bindArgs _ ⟨us,[]⟩=pure (ce _ us)) hl fun _=>rfl
 have F_40:=aZ (st:=iH) l_40 c_40 k_40;have b_40:=F_40.binds (ps:=["web", "piece"]) fun _ _ _ _ _ _ us hl=>L2.on2 (C:=fun us=>bindArgs _ ⟨us,[]⟩=pure (ce _ us)) hl fun _ _=>rfl
 have F_41:=aZ (st:=jF) l_41 c_41 k_41;have b_41:=F_41.binds (ps:=["web", "number"]) fun _ _ _ _ _ _ us hl=>L2.on2 (C:=fun us=>bindArgs _ ⟨us,[]⟩=pure (ce _ us)) hl fun _ _=>rfl
 have F_42:=aZ (st:=dY) l_42 c_42 k_42;have b_42:=F_42.binds (ps:=["web", "row"]) fun _ _ _ _ _ _ us hl=>L2.on2 (C:=fun us=>bindArgs _ ⟨us,[]⟩=pure (ce _ us)) hl fun _ _=>rfl
 have F_43:=aZ (st:=dG) l_43 c_43 k_43;have b_43:=F_43.binds (ps:=["script", "k"]) fun _ _ _ _ _ _ us hl=>L2.on2 (C:=fun us=>bindArgs _ ⟨us,[]⟩=pure (ce _ us)) hl fun _ _=>rfl
 have F_44:=aZ (st:=eU) l_44 c_44 k_44;have b_44:=F_44.binds (ps:=["found", "due"]) fun _ _ _ _ _ _ us hl=>L2.on2 (C:=fun us=>bindArgs _ ⟨us,[]⟩=pure (ce _ us)) hl fun _ _=>rfl
 have F_45:=aZ (st:=eJ) l_45 c_45 k_45;have b_45:=F_45.binds (ps:=["cells", "kinds", "first"]) fun _ _ _ _ _ _ us hl=>L2.on3 (C:=fun us=>bindArgs _ ⟨us,[]⟩=pure (ce _ us)) hl fun _ _ _=>rfl
 have F_46:=aZ (st:=cN) l_46 c_46 k_46;have b_46:=F_46.binds (ps:=["script", "at", "most"]) fun _ _ _ _ _ _ us hl=>L2.on3 (C:=fun us=>bindArgs _ ⟨us,[]⟩=pure (ce _ us)) hl fun _ _ _=>rfl
 have F_47:=aZ (st:=dJ) l_47 c_47 k_47;have b_47:=F_47.binds (ps:=["script", "many"]) fun _ _ _ _ _ _ us hl=>L2.on2 (C:=fun us=>bindArgs _ ⟨us,[]⟩=pure (ce _ us)) hl fun _ _=>rfl
 have F_48:=aZ (st:=eZ) l_48 c_48 k_48;have b_48:=F_48.binds (ps:=["script"]) fun _ _ _ _ _ _ us hl=>L2.on1 (C:=fun us=>bindArgs _ ⟨us,[]⟩=pure (ce _ us)) hl fun _=>rfl
 have F_49:=aZ (st:=dC) l_49 c_49 k_49;have b_49:=F_49.binds (ps:=["words", "text"]) fun _ _ _ _ _ _ us hl=>L2.on2 (C:=fun us=>bindArgs _ ⟨us,[]⟩=pure (ce _ us)) hl fun _ _=>rfl
 have F_50:=aZ (st:=cJ) l_50 c_50 k_50;have b_50:=F_50.binds (ps:=["web", "words", "many"]) fun _ _ _ _ _ _ us hl=>L2.on3 (C:=fun us=>bindArgs _ ⟨us,[]⟩=pure (ce _ us)) hl fun _ _ _=>rfl
 have F_51:=aZ (st:=lW) l_51 c_51 k_51;refine⟨a0 "law" "law" (aQ lW) (aP lW) (aD lW) .none kV_51 dc_51 pm_51 an_51 cd_51 ct_51,fun s v=>.of_eq rfl,fun base _ _=>?_⟩
 have C_0:Cal l.prog w K mg base (CX1 l.prog w) "further_times" 1 ["place", "last"] yV:=⟨⟨_,_,pC F_0 tt,ap X G a_0,F_0.kp,b_0⟩⟩
 have C_1:Cal l.prog w K mg base (CX1 l.prog w) "inverse" 1 ["number", "prime"] yF:=⟨⟨_,_,Eu F_1 tt,ap X G a_1,F_1.kp,b_1⟩⟩
 have C_2:Cal l.prog w K mg base (CX1 l.prog w) "lowered" 1 ["row", "top", "back", "prime"] (Mc K):=⟨⟨_,_,Ec F_2 tt,ap X G a_2,F_2.kp,b_2⟩⟩
 have C_3:Cal l.prog w K mg base (CX1 l.prog w) "first_other_than_nought" 1 ["numbers"] (yU K):=⟨⟨_,_,iQ F_3 tt,ap X G a_3,F_3.kp,b_3⟩⟩
 have C_4:Cal l.prog w K mg base (CX1 l.prog w) "determinant_rest" 2 ["square", "prime"] (Fc K):=⟨⟨_,_,lO F_4 tt C_3 C_1 C_2,ap X G a_4,F_4.kp,b_4⟩⟩
 have C_5:Cal l.prog w K mg base (CX1 l.prog w) "greatest_of" 1 ["square"] (zC K):=⟨⟨_,_,uJ F_5 tt,ap X G a_5,F_5.kp,b_5⟩⟩
 have C_6:Cal l.prog w K mg base (CX1 l.prog w) "determinant" 3 ["square"] (Lo K):=⟨⟨_,_,sL F_6 tt C_5 C_4 C_0 C_1,ap X G a_6,F_6.kp,b_6⟩⟩
 have C_7:Cal l.prog w K mg base (CX1 l.prog w) "looked_kinds" 1 ["kinds"] (nE _):=⟨⟨_,_,qK F_7 tt,ap X G a_7,F_7.kp,b_7⟩⟩
 have C_8:Cal l.prog w K mg base (CX1 l.prog w) "looked_length" 2 ["length", "kinds"] (Db _):=⟨⟨_,_,pB F_8 tt C_7,ap X G a_8,F_8.kp,b_8⟩⟩
 have C_9:Cal l.prog w K mg base (CX1 l.prog w) "letters" 2 ["kinds"] (mR _):=⟨⟨_,_,Cq F_9 tt C_7,ap X G a_9,F_9.kp,b_9⟩⟩
 have C_10:Cal l.prog w K mg base (CX1 l.prog w) "looked" 3 ["word", "kinds"] (nZ _):=⟨⟨_,_,Jh F_10 tt C_8 C_9,ap X G a_10,F_10.kp,b_10⟩⟩
 have C_11:Cal l.prog w K mg base (CX1 l.prog w) "row_windows" 1 ["text", "length"] Eh:=⟨⟨_,_,rM F_11 tt,ap X G a_11,F_11.kp,b_11⟩⟩
 have C_12:Cal l.prog w K mg base (CX1 l.prog w) "ring_windows" 1 ["text", "length"] zO:=⟨⟨_,_,qU F_12 tt,ap X G a_12,F_12.kp,b_12⟩⟩
 have C_13:Cal l.prog w K mg base (CX1 l.prog w) "windows" 2 ["text", "length", "ring"] Fu:=⟨⟨_,_,Em F_13 tt C_11 C_12,ap X G a_13,F_13.kp,b_13⟩⟩
 have C_14:Cal l.prog w K mg base (CX1 l.prog w) "looked_web" 4 ["words"] (Dx K):=⟨⟨_,_,vM F_14 tt C_10,ap X G a_14,F_14.kp,b_14⟩⟩
 have C_15:Cam l.prog w K mg base (CX1 l.prog w) "Web" c_Web 5 ["self", "words"] (Fg K _):=⟨⟨_,_,Ah F_15 tt C_14,⟨mk_Web,a_15,i_Web_init,kc_Web⟩,ap X G y_Web,b_15⟩⟩
 have C_16:Cal l.prog w K mg base (CX1 l.prog w) "begin_of" 1 ["word"] gQ:=⟨⟨_,_,Bt F_16 tt,ap X G a_16,F_16.kp,b_16⟩⟩
 have C_17:Cal l.prog w K mg base (CX1 l.prog w) "end_of" 1 ["word"] lZ:=⟨⟨_,_,Jn F_17 tt,ap X G a_17,F_17.kp,b_17⟩⟩
 have C_18:Cal l.prog w K mg base (CX1 l.prog w) "pieces" 2 ["web"] (gZ c_Web):=⟨⟨_,_,Ki F_18 tt C_16 C_17,ap X G a_18,F_18.kp,b_18⟩⟩
 have C_19:Cal l.prog w K mg base (CX1 l.prog w) "outs" 2 ["web", "piece"] (Dv c_Web):=⟨⟨_,_,Pk F_19 tt C_16,ap X G a_19,F_19.kp,b_19⟩⟩
 have C_20:Cal l.prog w K mg base (CX1 l.prog w) "excess" 2 ["web", "some"] (kO K c_Web):=⟨⟨_,_,Id F_20 tt C_16 C_17,ap X G a_20,F_20.kp,b_20⟩⟩
 have C_21:Cal l.prog w K mg base (CX1 l.prog w) "hanging_by" 2 ["words", "piece"] (Ms K):=⟨⟨_,_,uX F_21 tt C_16 C_17,ap X G a_21,F_21.kp,b_21⟩⟩
 have C_22:Cal l.prog w K mg base (CX1 l.prog w) "hanging" 3 ["web", "piece"] (Cu c_Web _):=⟨⟨_,_,Eg F_22 tt C_18 C_21,ap X G a_22,F_22.kp,b_22⟩⟩
 have C_23:Cal l.prog w K mg base (CX1 l.prog w) "why_apart" 4 ["web"] (xM c_Web):=⟨⟨_,_,xW F_23 tt C_18 C_22,ap X G a_23,F_23.kp,b_23⟩⟩
 have C_24:Cal l.prog w K mg base (CX1 l.prog w) "why_no_ring" 5 ["web"] (Cr c_Web):=⟨⟨_,_,sM F_24 tt C_18 C_20 C_23,ap X G a_24,F_24.kp,b_24⟩⟩
 have C_25:Cal l.prog w K mg base (CX1 l.prog w) "why_no_row" 5 ["web"] (yN c_Web):=⟨⟨_,_,vI F_25 tt C_18 C_20 C_23,ap X G a_25,F_25.kp,b_25⟩⟩
 have C_26:Cal l.prog w K mg base (CX1 l.prog w) "row_ends" 6 ["web"] (yS c_Web):=⟨⟨_,_,Bq F_26 tt C_25 C_24 C_18 C_20,ap X G a_26,F_26.kp,b_26⟩⟩
 have C_27:Cal l.prog w K mg base (CX1 l.prog w) "is_row" 3 ["web", "text"] (zJ c_Web):=⟨⟨_,_,Je F_27 tt C_13,ap X G a_27,F_27.kp,b_27⟩⟩
 have C_28:Cal l.prog w K mg base (CX1 l.prog w) "without" 1 ["words", "word"] (lI K):=⟨⟨_,_,Er F_28 tt,ap X G a_28,F_28.kp,b_28⟩⟩
 have C_29:Cal l.prog w K mg base (CX1 l.prog w) "choice_row" 2 ["texts", "text", "words"] (Eb K):=⟨⟨_,_,uS F_29 tt C_17,ap X G a_29,F_29.kp,b_29⟩⟩
 have C_30:Cal l.prog w K mg base (CX1 l.prog w) "choices_counted" 4 ["ways"] (pR K):=⟨⟨_,_,mB F_30 tt C_6 C_29,ap X G a_30,F_30.kp,b_30⟩⟩
 have C_31:Cal l.prog w K mg base (CX1 l.prog w) "is_even" 2 ["words", "one", "other"] (Dr K):=⟨⟨_,_,Dm F_31 tt C_16 C_17,ap X G a_31,F_31.kp,b_31⟩⟩
 have C_32:Cal l.prog w K mg base (CX1 l.prog w) "by_begin" 2 ["words"] (zW K):=⟨⟨_,_,Ay F_32 tt C_16,ap X G a_32,F_32.kp,b_32⟩⟩
 have C_33:Cal l.prog w K mg base (CX1 l.prog w) "product_up_to" 1 ["many"] Es:=⟨⟨_,_,oM F_33 tt,ap X G a_33,F_33.kp,b_33⟩⟩
 have C_34:Cal l.prog w K mg base (CX1 l.prog w) "ways_on" 5 ["words", "one", "other"] (iM K):=⟨⟨_,_,Fb F_34 tt C_31 C_32 C_33 C_30,ap X G a_34,F_34.kp,b_34⟩⟩
 have C_35:Cal l.prog w K mg base (CX1 l.prog w) "way_by" 6 ["words", "one", "other", "number"] (yB K):=⟨⟨_,_,Ig F_35 tt C_32 C_34 C_28 C_17,ap X G a_35,F_35.kp,b_35⟩⟩
 have C_36:Cal l.prog w K mg base (CX1 l.prog w) "way_number" 6 ["words", "order", "other"] (uB K):=⟨⟨_,_,vN F_36 tt C_32 C_16 C_34 C_28 C_17,ap X G a_36,F_36.kp,b_36⟩⟩
 have C_37:Cal l.prog w K mg base (CX1 l.prog w) "ring_count" 6 ["web"] (qZ c_Web):=⟨⟨_,_,vA F_37 tt C_34 C_17 C_16,ap X G a_37,F_37.kp,b_37⟩⟩
 have C_38:Cal l.prog w K mg base (CX1 l.prog w) "row_counts" 7 ["web"] (nD c_Web):=⟨⟨_,_,vK F_38 tt C_37 C_18 C_19 C_25 C_26 C_34,ap X G a_38,F_38.kp,b_38⟩⟩
 have C_39:Cal l.prog w K mg base (CX1 l.prog w) "row_count" 8 ["web"] (mK c_Web):=⟨⟨_,_,wY F_39 tt C_38,ap X G a_39,F_39.kp,b_39⟩⟩
 have C_40:Cal l.prog w K mg base (CX1 l.prog w) "row_end" 7 ["web", "piece"] (tS c_Web):=⟨⟨_,_,Dn F_40 tt C_26,ap X G a_40,F_40.kp,b_40⟩⟩
 have C_41:Cal l.prog w K mg base (CX1 l.prog w) "row_by" 8 ["web", "number"] (wZ c_Web _):=⟨⟨_,_,Kh F_41 tt C_38 C_35 C_40,ap X G a_41,F_41.kp,b_41⟩⟩
 have C_42:Cal l.prog w K mg base (CX1 l.prog w) "row_number" 8 ["web", "row"] (Da c_Web _):=⟨⟨_,_,vD F_42 tt C_27 C_38 C_36 C_13,ap X G a_42,F_42.kp,b_42⟩⟩
 have C_43:Cal l.prog w K mg base (CX1 l.prog w) "_law_cell_at" 1 ["script", "k"] (rO K):=⟨⟨_,_,qO F_43 tt,ap X G a_43,F_43.kp,b_43⟩⟩
 have C_44:Cal l.prog w K mg base (CX1 l.prog w) "_law_whole" 1 ["found", "due"] zQ:=⟨⟨_,_,vC F_44 tt,ap X G a_44,F_44.kp,b_44⟩⟩
 have C_45:Cal l.prog w K mg base (CX1 l.prog w) "_law_walk" 1 ["cells", "kinds", "first"] (xN K):=⟨⟨_,_,zN F_45 tt,ap X G a_45,F_45.kp,b_45⟩⟩
 have C_46:Cal l.prog w K mg base (CX1 l.prog w) "_law_ring_words" 2 ["script", "at", "most"] (tJ K):=⟨⟨_,_,mL F_46 tt C_43 C_45,ap X G a_46,F_46.kp,b_46⟩⟩
 have C_47:Cal l.prog w K mg base (CX1 l.prog w) "_law_numbers" 1 ["script", "many"] (Dz K):=⟨⟨_,_,qP F_47 tt,ap X G a_47,F_47.kp,b_47⟩⟩
 have C_48:Cal l.prog w K mg base (CX1 l.prog w) "_law_trail" 2 ["script"] (xB K):=⟨⟨_,_,uQ F_48 tt C_43 C_45,ap X G a_48,F_48.kp,b_48⟩⟩
 have C_49:Cal l.prog w K mg base (CX1 l.prog w) "_law_is_row" 1 ["words", "text"] (Ei K):=⟨⟨_,_,tW F_49 tt,ap X G a_49,F_49.kp,b_49⟩⟩
 have C_50:Cal l.prog w K mg base (CX1 l.prog w) "_law_count_right" 7 ["web", "words", "many"] (Ub K c_Web):=⟨⟨_,_,lP F_50 tt C_37 C_34,ap X G a_50,F_50.kp,b_50⟩⟩
 exact Su F_51 tt C_48 C_43 C_46 C_15 C_39 C_50 C_47 C_41 C_49 C_44 C_42
theorem walk {l : n9} {q : Program} {loose : List Str} {XP : (Str → Option Value) → Heap → Prop} {YP : World → Heap → Prop} {d : DefRec} {K : Params → ae} (hn : l.most = some 63) (hdf : d.params.defaults = [])
  (hY : ∀ (w : World) (h : Heap), YP w h → (K w.params).In h)
  (F : ∀ (w : World) (mg : Str → Option Value) (fa : Addr) (h : Heap), (K w.params).In h → h.Ns mainGlobals mg → mg d.name = some (.ref fa) →
   ∃ fd : FuncData, (∀ (s : Shared) (u : Value), BindsTo s fd ⟨[u], []⟩ [("script", u)]) ∧ ∀ base : Heap, (K w.params).In base → base.Ns mainGlobals mg → bQ l.prog w (K w.params) mg base (CX1 l.prog w) 9 fa fd ["script"] (Gy (K w.params))) :
  tj q loose XP YP l.row.toRowW d [] (fun f vs => se f vs) :=
 L2.Pq (n := 63) (k := 9) (x := "script") (CX := fun w => CX1 l.prog w) (sp := fun w => Gy (K w.params)) hn (by decide) hdf ⟨rfl, by decide, by decide⟩ hY F (fun _ _ a ns hl _ hS => ⟨a, ns, rfl, hS, hl, fun _ => rfl⟩) fun _ _ _ _ _ ⟨_, _, _, _, _, z⟩ => z
end K40
theorem PySem.W.Fast.tw9417619531336398881:True:=trivial
theorem PySem.W.Fast.tw8863692115766416193:True:=trivial
theorem PySem.W.Fast.tw13743625041792399042:True:=trivial
theorem PySem.W.Fast.tw9713557276268907651:True:=trivial
theorem PySem.W.Fast.tw17886836809437449699:True:=trivial
theorem PySem.W.Fast.tw7420827173179945571:True:=trivial
theorem PySem.W.Fast.tw3644846721864903331:True:=trivial
theorem PySem.W.Fast.tw13848679490456311683:True:=trivial
theorem PySem.W.Fast.tw9938752769907234052:True:=trivial
theorem PySem.W.Fast.tw6769972535446313893:True:=trivial
theorem PySem.W.Fast.tw426356461603662855:True:=trivial
theorem PySem.W.Fast.tw11784790983148375431:True:=trivial
theorem PySem.W.Fast.tw1080836370395430567:True:=trivial
theorem PySem.W.Fast.tw5160503845591433768:True:=trivial
theorem PySem.W.Fast.tw1285562835624456233:True:=trivial
theorem PySem.W.Fast.tw6164255372861287785:True:=trivial
theorem PySem.W.Fast.tw9115349798474170825:True:=trivial
theorem PySem.W.Fast.tw1429363000617753161:True:=trivial
theorem PySem.W.Fast.tw15896003540177414730:True:=trivial
theorem PySem.W.Fast.tw3959853355537592906:True:=trivial
theorem PySem.W.Fast.tw10823963276274122923:True:=trivial
theorem PySem.W.Fast.tw15944205629670127948:True:=trivial
theorem PySem.W.Fast.tw3221078887110363916:True:=trivial
theorem PySem.W.Fast.tw11486962417681801869:True:=trivial
theorem PySem.W.Fast.tw17092944497446837390:True:=trivial
theorem PySem.W.Fast.tw16569329798179500398:True:=trivial
theorem PySem.W.Fast.tw14991972205465208847:True:=trivial
theorem PySem.W.Fast.tw105319174215137103:True:=trivial
theorem PySem.W.Fast.tw17157243672095211504:True:=trivial
theorem PySem.W.Fast.tw10870911336916317681:True:=trivial
theorem PySem.W.Fast.tw14160800660179105361:True:=trivial
theorem PySem.W.Fast.tw4035143401416569938:True:=trivial
theorem PySem.W.Fast.tw15879331555068185778:True:=trivial
theorem PySem.W.Fast.tw1277827651828618419:True:=trivial
theorem PySem.W.Fast.tw12231005514156521747:True:=trivial
theorem PySem.W.Fast.tw11355072793507617267:True:=trivial
theorem PySem.W.Fast.tw4537800930352130707:True:=trivial
theorem PySem.W.Fast.tw8918262631094760500:True:=trivial
theorem PySem.W.Fast.tw11252212956966834292:True:=trivial
theorem PySem.W.Fast.tw17522196252351515060:True:=trivial
theorem PySem.W.Fast.tw651669103429197236:True:=trivial
theorem PySem.W.Fast.tw1560605938369292757:True:=trivial
theorem PySem.W.Fast.tw15851809889119182934:True:=trivial
theorem PySem.W.Fast.tw11159179836608524470:True:=trivial
theorem PySem.W.Fast.tw17921530433507796310:True:=trivial
theorem PySem.W.Fast.tw9600575350513421302:True:=trivial
theorem PySem.W.Fast.tw14946417467058281559:True:=trivial
theorem PySem.W.Fast.te14913438375601080535:True:=trivial
theorem PySem.W.Fast.tw7208756408956359159:True:=trivial
theorem PySem.W.Fast.tw6002432144479696471:True:=trivial
theorem PySem.W.Fast.tw13840864385867555735:True:=trivial
theorem PySem.W.Fast.tw17158707544970810295:True:=trivial
theorem PySem.W.Fast.tw17127455868933433560:True:=trivial
theorem PySem.W.Fast.tw9505988967239370072:True:=trivial
theorem PySem.W.Fast.tw11452844934412644024:True:=trivial
theorem PySem.W.Fast.tw4027936644639274297:True:=trivial
theorem PySem.W.Fast.tw1280816873148270137:True:=trivial
theorem PySem.W.Fast.tw7684585549419930169:True:=trivial
theorem PySem.W.Fast.tw15156794549113784217:True:=trivial
theorem PySem.W.Fast.tw7737063899648712730:True:=trivial
theorem PySem.W.Fast.tw18406731802814291034:True:=trivial
theorem PySem.W.Fast.tw14492790587455922299:True:=trivial
theorem PySem.W.Fast.tw4471125602534723739:True:=trivial
theorem PySem.W.Fast.tw9159942747034653019:True:=trivial
theorem PySem.W.Fast.tw6678823586799771003:True:=trivial
theorem PySem.W.Fast.tw16992504464641041083:True:=trivial
theorem PySem.W.Fast.tw3389915030873542363:True:=trivial
theorem PySem.W.Fast.tw12157678793618529468:True:=trivial
theorem PySem.W.Fast.tw12979665845152169788:True:=trivial
theorem PySem.W.Fast.tw3608409999475494908:True:=trivial
theorem PySem.W.Fast.tw15005387421892263037:True:=trivial
theorem PySem.W.Fast.tw8160467356117891933:True:=trivial
theorem PySem.W.Fast.tw11391002850501818269:True:=trivial
theorem PySem.W.Fast.tw1071164981291673886:True:=trivial
theorem PySem.W.Fast.tw9215274624423535166:True:=trivial
theorem PySem.W.Fast.tw9577944563403708607:True:=trivial
theorem PySem.W.Fast.tw15027549044645663327:True:=trivial
def PySem.W.Fast.tw8220056385077458742:=PySem.Challenge.pw_onceround_k40_whole_rows_numbered
theorem PySem.W.Fast.te8220056385077458742:PySem.Challenge.pw_onceround_k40_whole_rows_numbered=PySem.W.Fast.tw8220056385077458742:=rfl
end
open PySem PySem.W PyProof.Rows
set_option maxRecDepth 100000 in
set_option maxHeartbeats 0 in
theorem PySem.Challenge.cw_onceround_k40_whole_rows_numbered_holds : PySem.Challenge.rw_onceround_k40_whole_rows_numbered.Holds := by
  w_on; o_law; k_head; (case hw=>w_witness2)
  k_fill
  refine K40.walk (l := PySem.Challenge.rw_onceround_k40_whole_rows_numbered) rfl rfl (fun w h Y => PySem.W.kIn_of Y) ?F
  case F =>
    intro w mg fa h KX G hmg
    refine' K40.all_mk KX G hmg ?a_0 ?l_0 ?c_0 ?k_0 ?a_1 ?l_1 ?c_1 ?k_1 ?a_2 ?l_2 ?c_2 ?k_2 ?a_3 ?l_3 ?c_3 ?k_3 ?a_4 ?l_4 ?c_4 ?k_4 ?a_5 ?l_5 ?c_5 ?k_5 ?a_6 ?l_6 ?c_6 ?k_6 ?a_7 ?l_7 ?c_7 ?k_7 ?a_8 ?l_8 ?c_8 ?k_8 ?a_9 ?l_9 ?c_9 ?k_9 ?a_10 ?l_10 ?c_10 ?k_10 ?a_11 ?l_11 ?c_11 ?k_11 ?a_12 ?l_12 ?c_12 ?k_12 ?a_13 ?l_13 ?c_13 ?k_13 ?a_14 ?l_14 ?c_14 ?k_14 ?a_15 ?l_15 ?c_15 ?k_15 ?i_Web_init ?a_16 ?l_16 ?c_16 ?k_16 ?a_17 ?l_17 ?c_17 ?k_17 ?a_18 ?l_18 ?c_18 ?k_18 ?a_19 ?l_19 ?c_19 ?k_19 ?a_20 ?l_20 ?c_20 ?k_20 ?a_21 ?l_21 ?c_21 ?k_21 ?a_22 ?l_22 ?c_22 ?k_22 ?a_23 ?l_23 ?c_23 ?k_23 ?a_24 ?l_24 ?c_24 ?k_24 ?a_25 ?l_25 ?c_25 ?k_25 ?a_26 ?l_26 ?c_26 ?k_26 ?a_27 ?l_27 ?c_27 ?k_27 ?a_28 ?l_28 ?c_28 ?k_28 ?a_29 ?l_29 ?c_29 ?k_29 ?a_30 ?l_30 ?c_30 ?k_30 ?a_31 ?l_31 ?c_31 ?k_31 ?a_32 ?l_32 ?c_32 ?k_32 ?a_33 ?l_33 ?c_33 ?k_33 ?a_34 ?l_34 ?c_34 ?k_34 ?a_35 ?l_35 ?c_35 ?k_35 ?a_36 ?l_36 ?c_36 ?k_36 ?a_37 ?l_37 ?c_37 ?k_37 ?a_38 ?l_38 ?c_38 ?k_38 ?a_39 ?l_39 ?c_39 ?k_39 ?a_40 ?l_40 ?c_40 ?k_40 ?a_41 ?l_41 ?c_41 ?k_41 ?a_42 ?l_42 ?c_42 ?k_42 ?a_43 ?l_43 ?c_43 ?k_43 ?a_44 ?l_44 ?c_44 ?k_44 ?a_45 ?l_45 ?c_45 ?k_45 ?a_46 ?l_46 ?c_46 ?k_46 ?a_47 ?l_47 ?c_47 ?k_47 ?a_48 ?l_48 ?c_48 ?k_48 ?a_49 ?l_49 ?c_49 ?k_49 ?a_50 ?l_50 ?c_50 ?k_50 ?a_51 ?l_51 ?c_51 ?k_51 ?z_abs ?z_bool ?z_enumerate ?z_int ?z_isinstance ?z_len ?z_list ?z_range ?z_set ?z_sorted ?z_str ?z_sum ?z_tuple ?z_zip ?y_BadKinds ?y_BadWord ?y_TooMany ?y_NoSuch ?y_NotOne ?y_Web ?y_KNOWN_TIMES ?e_BadKinds ?e_BadWord ?e_TooMany ?e_NoSuch ?e_NotOne ?g_FIRST_PRIME ?r_FIRST_PRIME ?g_STEP ?r_STEP ?g_LETTERS ?r_LETTERS ?g_LONGEST ?r_LONGEST ?g_MOST_OF_A_WEB ?r_MOST_OF_A_WEB ?g_LONGEST_OF_A_WEB ?r_LONGEST_OF_A_WEB ?kt ?pg_Web ?hd_Web ?po_Web ?sa_Web ?mk_Web ?kc_Web ?na_Web_words ?na_Web_length
    (case y_Web=>k_is);(case a_0=>k_is);(case l_0=>k_is);(case c_0=>k_is);(case k_0=>k_is);(case a_1=>k_is);(case l_1=>k_is);(case c_1=>k_is);(case k_1=>k_is);(case a_2=>k_is);(case l_2=>k_is);(case c_2=>k_is);(case k_2=>k_is);(case a_3=>k_is);(case l_3=>k_is);(case c_3=>k_is);(case k_3=>k_is);(case a_4=>k_is);(case l_4=>k_is);(case c_4=>k_is);(case k_4=>k_is);(case a_5=>k_is);(case l_5=>k_is);(case c_5=>k_is);(case k_5=>k_is);(case a_6=>k_is);(case l_6=>k_is);(case c_6=>k_is);(case k_6=>k_is);(case a_7=>k_is);(case l_7=>k_is);(case c_7=>k_is);(case k_7=>k_is);(case a_8=>k_is);(case l_8=>k_is);(case c_8=>k_is);(case k_8=>k_is);(case a_9=>k_is);(case l_9=>k_is);(case c_9=>k_is);(case k_9=>k_is);(case a_10=>k_is);(case l_10=>k_is);(case c_10=>k_is);(case k_10=>k_is);(case a_11=>k_is);(case l_11=>k_is);(case c_11=>k_is);(case k_11=>k_is);(case a_12=>k_is);(case l_12=>k_is);(case c_12=>k_is);(case k_12=>k_is);(case a_13=>k_is);(case l_13=>k_is);(case c_13=>k_is);(case k_13=>k_is);(case a_14=>k_is);(case l_14=>k_is);(case c_14=>k_is);(case k_14=>k_is);(case a_15=>k_is);(case l_15=>k_is);(case c_15=>k_is);(case k_15=>k_is);(case a_16=>k_is);(case l_16=>k_is);(case c_16=>k_is);(case k_16=>k_is);(case a_17=>k_is);(case l_17=>k_is);(case c_17=>k_is);(case k_17=>k_is);(case a_18=>k_is);(case l_18=>k_is);(case c_18=>k_is);(case k_18=>k_is);(case a_19=>k_is);(case l_19=>k_is);(case c_19=>k_is);(case k_19=>k_is);(case a_20=>k_is);(case l_20=>k_is);(case c_20=>k_is);(case k_20=>k_is);(case a_21=>k_is);(case l_21=>k_is);(case c_21=>k_is);(case k_21=>k_is);(case a_22=>k_is);(case l_22=>k_is);(case c_22=>k_is);(case k_22=>k_is);(case a_23=>k_is);(case l_23=>k_is);(case c_23=>k_is);(case k_23=>k_is);(case a_24=>k_is);(case l_24=>k_is);(case c_24=>k_is);(case k_24=>k_is);(case a_25=>k_is);(case l_25=>k_is);(case c_25=>k_is);(case k_25=>k_is);(case a_26=>k_is);(case l_26=>k_is);(case c_26=>k_is);(case k_26=>k_is);(case a_27=>k_is);(case l_27=>k_is);(case c_27=>k_is);(case k_27=>k_is);(case a_28=>k_is);(case l_28=>k_is);(case c_28=>k_is);(case k_28=>k_is);(case a_29=>k_is);(case l_29=>k_is);(case c_29=>k_is);(case k_29=>k_is);(case a_30=>k_is);(case l_30=>k_is);(case c_30=>k_is);(case k_30=>k_is);(case a_31=>k_is);(case l_31=>k_is);(case c_31=>k_is);(case k_31=>k_is);(case a_32=>k_is);(case l_32=>k_is);(case c_32=>k_is);(case k_32=>k_is);(case a_33=>k_is);(case l_33=>k_is);(case c_33=>k_is);(case k_33=>k_is);(case a_34=>k_is);(case l_34=>k_is);(case c_34=>k_is);(case k_34=>k_is);(case a_35=>k_is);(case l_35=>k_is);(case c_35=>k_is);(case k_35=>k_is);(case a_36=>k_is);(case l_36=>k_is);(case c_36=>k_is);(case k_36=>k_is);(case a_37=>k_is);(case l_37=>k_is);(case c_37=>k_is);(case k_37=>k_is);(case a_38=>k_is);(case l_38=>k_is);(case c_38=>k_is);(case k_38=>k_is);(case a_39=>k_is);(case l_39=>k_is);(case c_39=>k_is);(case k_39=>k_is);(case a_40=>k_is);(case l_40=>k_is);(case c_40=>k_is);(case k_40=>k_is);(case a_41=>k_is);(case l_41=>k_is);(case c_41=>k_is);(case k_41=>k_is);(case a_42=>k_is);(case l_42=>k_is);(case c_42=>k_is);(case k_42=>k_is);(case a_43=>k_is);(case l_43=>k_is);(case c_43=>k_is);(case k_43=>k_is);(case a_44=>k_is);(case l_44=>k_is);(case c_44=>k_is);(case k_44=>k_is);(case a_45=>k_is);(case l_45=>k_is);(case c_45=>k_is);(case k_45=>k_is);(case a_46=>k_is);(case l_46=>k_is);(case c_46=>k_is);(case k_46=>k_is);(case a_47=>k_is);(case l_47=>k_is);(case c_47=>k_is);(case k_47=>k_is);(case a_48=>k_is);(case l_48=>k_is);(case c_48=>k_is);(case k_48=>k_is);(case a_49=>k_is);(case l_49=>k_is);(case c_49=>k_is);(case k_49=>k_is);(case a_50=>k_is);(case l_50=>k_is);(case c_50=>k_is);(case k_50=>k_is);(case a_51=>k_is);(case l_51=>k_is);(case c_51=>k_is);(case k_51=>k_is);(case z_abs=>k_is);(case z_bool=>k_is);(case z_enumerate=>k_is);(case z_int=>k_is);(case z_isinstance=>k_is);(case z_len=>k_is);(case z_list=>k_is);(case z_range=>k_is);(case z_set=>k_is);(case z_sorted=>k_is);(case z_str=>k_is);(case z_sum=>k_is);(case z_tuple=>k_is);(case z_zip=>k_is);(case y_BadKinds=>k_is);(case y_BadWord=>k_is);(case y_TooMany=>k_is);(case y_NoSuch=>k_is);(case y_NotOne=>k_is);(case y_KNOWN_TIMES=>k_is);(case e_BadKinds=>kernel_rfl);(case e_BadWord=>kernel_rfl);(case e_TooMany=>kernel_rfl);(case e_NoSuch=>kernel_rfl);(case e_NotOne=>kernel_rfl);(case g_FIRST_PRIME=>k_is);(case r_FIRST_PRIME=>exact ⟨_, rfl⟩);(case g_STEP=>k_is);(case r_STEP=>exact ⟨_, rfl⟩);(case g_LETTERS=>k_is);(case r_LETTERS=>exact ⟨_, rfl⟩);(case g_LONGEST=>k_is);(case r_LONGEST=>exact ⟨_, rfl⟩);(case g_MOST_OF_A_WEB=>k_is);(case r_MOST_OF_A_WEB=>exact ⟨_, rfl⟩);(case g_LONGEST_OF_A_WEB=>k_is);(case r_LONGEST_OF_A_WEB=>exact ⟨_, rfl⟩);(case kt=>kernel_rfl);(case pg_Web=>k_is);(case hd_Web=>k_is);(case po_Web=>k_is);(case sa_Web=>k_is);(case mk_Web=>k_is);(case kc_Web=>k_is);(case na_Web_words=>k_is);(case na_Web_length=>k_is);(case i_Web_init=>k_is)
#print axioms PySem.Challenge.cw_onceround_k40_whole_rows_numbered_holds
