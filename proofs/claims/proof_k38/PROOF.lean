import PyProof.Rows.All
import Wide.All
import OpenK.AllK
import Wide.FinOn
import Lean
import PyProof.EqAt
import PyProof.EqKinds
import PyProof.TupleCall
import PySem.Challenge.RW_onceround_k38_rings_and_rows_by_trial
open Array renaming length_toList->bt,getD_eq_getD_getElem?->gb,size_map->j3,getElem?_toList->li,eq_empty_of_size_eq_zero->lr,append_assoc->mm,getElem?_eq_getElem->m6,forIn_toList->qx,toList_push->ro,replicate->ub,getD->ug,toList->uz
open Array.Perm renaming refl->uc
open Bool renaming false_ne_true->am,false_eq_true->ck,and_eq_true->c7,eq_iff_iff->c9,or_false->ix,and_false->jb,or_eq_true->jm,not_eq_true'->ju,eq_false_iff->lc,not_true->lv,beq_eq_decide_eq->pf,false_and->pw,or_true->u5
open Classical renaming byContradiction->a5,choose->j6,choose_spec->pe
open Int renaming toNat_natCast->cu,emod_lt_of_pos->cx,emod_nonneg->dk,mul_assoc->dm,natAbs_natCast->ei,natCast_mul->fk,mul_comm->gq,mul_zero->gr,one_mul->jf,mul_le_mul_of_nonneg_right->lq,mul_one->lx,mul_le_mul_of_nonneg_left->lz,natCast_add->l7,zero_sub->mi,sub_zero->mj,fdiv_eq_ediv_of_nonneg->mo,natAbs_mul->mx,sub_mul->nc,dvd_mul_of_dvd_right->nh,dvd_mul_of_dvd_left->n0,zero_mul->oq,mul_add->p8,dvd_neg->p9,natAbs_eq_zero->qy,add_zero->rc,dvd_mul_right->re,natAbs_sub_le->ri,neg_mul->su,dvd_add->sw
open List renaming length_map->aR,getElem?_eq_getElem->aa,getElem?_map->ah,getD_eq_getElem?_getD->ai,mem_cons_of_mem->aj,length_append->ak,mem_cons_self->al,mem_map->ao,map_cons->ap,length_cons->aq,mem_cons->ar,mem_of_getElem?->au,getElem?_eq_some_iff->aw,map_congr_left->ay,size_toArray->az,length_take->a6,mem_singleton->a7,length_drop->a9,map_append->bc,length_eq_zero_iff->bh,map_map->bj,getElem?_eq_none->bn,mem_append_right->br,mem_append->bu,nodup_cons->bv,sum_cons->bz,length_singleton->b7,take_add_one->ca,mem_filter->cc,take_length->cf,zip->cg,take_of_length_le->cj,flatMap_cons->cm,length_pos_iff->cn,range->cp,length_filter_le->cq,mem_range->cr,getElem_mem->cy,filter_cons->cz,append_assoc->c6,pairwise_map->de,append_nil->df,filter_cons_of_neg->dj,length_pos_of_mem->dl,perm_ext_iff_of_nodup->dq,filter_cons_of_pos->dt,lt_irrefl->du,length_range->dw,exists_mem_of_length_pos->d0,getElem?_take_of_lt->d7,not_mem_nil->d8,nodup_append->d9,ext_getElem?->fe,all_eq_true->ft,getElem?_of_mem->fu,cons_append->fz,take_sublist->gc,drop_zero->gd,filter_eq_nil_iff->ge,getElem?_range->gf,mem_map_of_mem->gg,filter_eq_self->gh,length->gi,getElem?_drop->gk,filter_append->gl,eq_nil_iff_forall_not_mem->gm,nodup_nil->gu,filterMap_cons->gx,length_flatMap->gz,getElem?_append_right->ia,take_append_drop->ie,getElem?_append_left->ig,exists_mem_of_ne_nil->ii,drop_eq_getElem_cons->ij,find?_cons->ik,mem_append_left->im,map_nil->ip,length_eraseIdx->ir,map_id->iw,filterMap_cons_some->iy,flatMap_append->i9,take_zero->jc,mem_flatMap->jd,lookup_cons->je,drop_append_of_le_length->ji,length_nil->jn,filter_nil->jp,idxOf_lt_length_of_mem->jt,lookup->jv,filter_sublist->j9,length_erase_of_mem->kc,filterMap_cons_none->kf,map_drop->kg,map_take->kh,filter_filter->ki,pairwise_cons->kj,getElem?_cons_succ->kl,flatMap_eq_nil_iff->km,flatten_cons->kx,getElem?_eraseIdx->ky,pairwise_lt_range->k7,filter_congr->k9,count_append->lb,perm_append_comm->le,getElem?_toArray->lh,getElem?_zipWith->lj,any_cons->lu,lt_trans->lw,take_append_of_le_length->l0,perm_cons_erase->l5,dropLast_concat_getLast->l9,nil_append->ma,map_eq_nil_iff->mh,map_id'->ml,mem_filterMap->mn,replicate->mq,getElem?_tail->mz,length_eraseIdx_of_lt->m4,idxOf_lt_length_iff->nj,perm_nil->nk,sublist_append_left->nw,countP_cons->n8,flatMap_map->n9,map_flatMap->oa,any_eq_true->oj,getElem?_set_self->ol,zipWith->oy,of_mem_zip->o7,foldl_cons->pd,mem_iff_getElem?->ph,getElem?_set_ne->pq,mem_erase_of_ne->qa,mem_of_mem_drop->qe,mem_of_mem_take->qf,replicate_succ->qh,length_zipWith->qj,all_cons->qk,length_range'->qq,getElem_idxOf->qr,flatMap_assoc->qt,ne_nil_of_mem->qu,find?_eq_none->qw,reverse_perm->rl,find?_append->rq,drop_sublist->r8,prefix_refl->sh,flatMap_def->si,drop_length->sj,not_lt->sr,range'->tf,range_succ->tz,count_cons->t8,take_left'->t9,find?_some->ua,drop_drop->ue,nil_perm->uy
open List.Pairwise renaming imp_of_mem->fh,nil->m9,imp₂->u7
open List.Perm renaming refl->ic,append_left->jr,trans->pb,swap->uf
open List.Sublist renaming refl->r6
open List.cons renaming inj->jq
open Nat renaming le_refl->af,le_trans->av,ne_of_lt->bb,lt_of_lt_of_le->bx,zero_le->b6,pow_le_pow_right->db,mul_comm->dh,mul_assoc->dy,lt_succ_of_lt->dz,lt_of_le_of_lt->eh,lt_irrefl->ej,mod_eq_of_lt->et,mul_le_mul->fg,min_eq_left->fm,one_mul->fo,mul_le_mul_right->fq,lt_succ_self->gj,lt_or_ge->gt,ne_of_gt->g0,le_succ->g7,add_mul->g8,le_add_right->g9,sub_add_cancel->ib,add_comm->iq,sub_zero->iu,mul_le_mul_left->i7,gcd->i8,pow_add->jh,dvd_of_mod_eq_zero->jj,pos_of_ne_zero->jk,zero_add->jl,gcd_dvd_right->js,mod_lt->jx,pow_mul->jy,mul_mod->jz,le_of_lt->j4,pow_succ->j5,add_le_add_left->j8,le_of_eq->ku,add_zero->k8,lt_of_succ_lt->ld,pow_lt_pow_right->ly,not_lt_zero->l8,add_le_add->mw,eq_zero_or_pos->my,min_le_right->ny,mul_div_cancel_left->n6,zero_mul->oo,succ_pos->ou,div_add_mod->o9,gcd_rec->qb,mul_one->qc,pow_pos->qd,add_sub_cancel'->qi,add_sub_cancel->qo,mod_mod_of_dvd->qp,add_right_comm->qv,mul_zero->rf,lt_trans->rh,sub_self->rj,mul_left_comm->rn,pow_mod->sx,mod_mod->sy,mul_pos->ti,mul_add->tj,mod_add_mod->tq,gcd_le_left->tu,div_le_self->tw,not_lt->ui,le_of_dvd->uw,add_assoc->ux
open Option renaming map_eq_some_iff->ba,map_some->jo,isSome_map->ng,getD_none->sf,map->uh
open Option.some renaming inj->a8
open PyProof.Rows renaming boot_sorted->di,callWith_type1->ga,slot_tuple_getitem->i6,boot_sum->ll,boot_min->lm,boot_isinstance->mf,SetOf_congr->nn
open PyProof.Rows.F renaming plain_set_update_loop->dg,entry_set_update_loop->e9
open PySem renaming boot_len->a0,Scope->ci,strKind->fj,mem_of_lookup->gy,Within->qz,call->ud
open PySem.Challenge renaming pw_onceround_k38_rings_and_rows_by_trial->l6
open PySem.EqMixed renaming eq_bool_str->uj,eq_str_bool->uk,ne_bool_str->um,ne_str_bool->uo,eq_int_str->uq,eq_str_int->ur,ne_int_str->ut,ne_str_int->uu
open PySem.F renaming plainAttrs_list->dv,slot_list_append->iz,type_list_append->i0,slot_list_count->ko,plainAttrs_dict->kq,slot_dict_pop->lg,slot_dict_setdefault->me,slot_dict_values->nq,slot_list_extend->nr,type_list_extend->nu,args_dict_pop_3->oe,type_list_count->oh,entry_dict_pop->ox,plainAttrs_str->oz,slot_str_join->pi,type_str_join->pj
open PySem.NameKind renaming «local»->ag,free->bf,globalImplicit->bo
open PySem.ScopeKind renaming function->ax
open PySem.Str renaming ofString->ac
open PySem.W renaming Frag->ae,nsIn->b8,mg_none_of->c8,mg_of->da,findIn->eg,kia_one->er,emptyDict->fb,keepIn->ff,fnOf->gn,instObj->gv,codeIn->ja,kitOne->jw,hideAll_get->j7,excIn->ke,hasDictIn->kr,plainGet->ln,methodObj->m7,plainOver->m8,cellsFrom_some->om,takerIn->o0,makesIn->o6,OpenLaw->o8,lookIn->pz,of_hideAll->ql,callWith_K->qm,kitx_list->ra,kitx_dict->rb,handedIn->sd,hideAll->tm,WalkO->uv,isFn->u4
open PySem.W.Looks renaming here->u6
open Std.Trichotomous renaming trichotomous->jg
open Sum renaming inr->b9,inl->qg
open Sum.inr renaming inj->il
set_option genSizeOfSpec false
set_option bootstrap.genMatcherCode false
set_option Elab.async false
set_option linter.all false
set_option maxRecDepth 100000
set_option maxHeartbeats 4000000
noncomputable section
namespace L2
open PySem PySem.Spec PyProof.Rows
abbrev Key:=Sum Int Str
def tY:Key->Value->Bool
 | .inl k,v=>Value.isInt k v
 | .inr x,v=>Value.isStrOf x v
def aAh (w:World):Key->Int
 | .inl k=>hashInt k
 | .inr x=>hashStr w x
theorem cQ:∀ {k:Key} {v:Value},tY k v=true->(∃ i t,k=qg i∧v=Value.int i t)∨(∃ x t,k=b9 x∧v=Value.str x t)
 | .inl i,v,h=>by
  obtain⟨t,e⟩:=Value.isInt_shape (k:=i) (v:=v) h;exact .inl ⟨i,t,rfl,e⟩
 | .inr x,v,h=>by
  obtain⟨t,e⟩:=Value.isStrOf_shape (x:=x) (v:=v) h;exact .inr ⟨x,t,rfl,e⟩
theorem Jv (i:Int)(t:Tok):tY (.inl i) (.int i t)=true:=by simp[tY,Value.isInt]
theorem Ke (x:Str)(t:Tok):tY (.inr x) (.str x t)=true:=by simp[tY,Value.isStrOf]
theorem Xb (a b:Int):decide ((qg a:Key)=qg b)=(a==b):=by
 by_cases e:a=b
 ·subst e;simp
 ·have h:¬ (qg a:Key)=qg b:=fun q=>e (Sum.inl.inj q)
  rw[decide_eq_false h];exact (beq_eq_false_iff_ne.mpr e).symm
theorem Xv (a b:Str):decide ((b9 a:Key)=b9 b)=decide (a=b):=by
 by_cases e:a=b
 ·subst e;simp
 ·have h:¬ (b9 a:Key)=b9 b:=fun q=>e (il q)
  rw[decide_eq_false h,decide_eq_false e]
theorem Wp (a:Int)(b:Str):decide ((qg a:Key)=b9 b)=false:=decide_eq_false (fun q=>nomatch q)
theorem Xr (a:Str)(b:Int):decide ((b9 a:Key)=qg b)=false:=decide_eq_false (fun q=>nomatch q)
def bD (prog:Program)(w:World):PySem.KeyKind prog w Key where
 is:=tY
 hash:=aAh w
 inj:=fun v a b ha hb=>by
  rcases cQ ha with ⟨i,t,rfl,rfl⟩ | ⟨x,t,rfl,rfl⟩
  ·rcases cQ hb with ⟨j,u,rfl,e⟩ | ⟨y,u,rfl,e⟩
   ·injection e with e1 _;rw[e1]
   ·exact nomatch e
  ·rcases cQ hb with ⟨j,u,rfl,e⟩ | ⟨y,u,rfl,e⟩
   ·exact nomatch e
   ·injection e with e1 _;rw[e1]
 byValue:=fun k v h=>by
  rcases cQ h with ⟨i,t,rfl,rfl⟩ | ⟨x,t,rfl,rfl⟩ <;> rfl
 pyHash:=fun hv h=>by
  rcases cQ hv with ⟨i,t,rfl,rfl⟩ | ⟨x,t,rfl,rfl⟩
  ·exact wpAny_pyHash_int h
  ·exact wpAny_pyHash_str h
 eqBool:=fun hu hv h=>by
  rcases cQ hu with ⟨i,t,rfl,rfl⟩ | ⟨x,t,rfl,rfl⟩
  ·rcases cQ hv with ⟨j,u,rfl,rfl⟩ | ⟨y,u,rfl,rfl⟩
   ·rw[Xb] at h;exact wpAny_eqBool_int h
   ·rw[Wp] at h;exact SeqAt.EqAt.int_str i t y u _ _ _ _ h
  ·rcases cQ hv with ⟨j,u,rfl,rfl⟩ | ⟨y,u,rfl,rfl⟩
   ·rw[Xr] at h;exact SeqAt.EqAt.str_int x t j u _ _ _ _ h
   ·rw[Xv] at h;exact wpAny_eqBool_str h
 «strs» := fun k x t v h=>by
  rcases cQ h with ⟨i,u,rfl,e⟩ | ⟨y,u,rfl,e⟩
  ·exact nomatch e
  ·injection e with e1 _
   subst e1;cases v <;> rfl
theorem Ce (prog:Program)(w:World)(i:Int)(t:Tok):(bD prog w).is (.inl i) (.int i t)=true:=Jv i t
theorem Bx (prog:Program)(w:World)(x:Str)(t:Tok):(bD prog w).is (.inr x) (.str x t)=true:=Ke x t
inductive V where
 | non | bl (b:Bool) | int (i:Int) | str (x:Str) | byt (b:Array UInt8) | flt (b:UInt64) | ref (a:Addr) | ty (n:String)
 deriving DecidableEq
def bE:V->Value->Prop
 | .non,u=>u=Value.none
 | .bl b,u=>u=Value.bool b
 | .int i,u=>∃ t,u=Value.int i t
 | .str x,u=>∃ t,u=Value.str x t
 | .byt b,u=>∃ t,u=Value.bytes b t
 | .flt b,u=>∃ t,u=Value.float b t
 | .ref a,u=>u=Value.ref a
 | .ty n,u=>u=Value.type n
abbrev bV:List V->List Value->Prop:=Paired bE
theorem bV.length {xs:List V}{us:List Value}(r:bV xs us):xs.length=us.length:=Paired.length r
theorem bV.get:∀ {xs:List V} {us:List Value} {i:Nat} {x:V},bV xs us->xs[i]?=some x->∃ u,us[i]?=some u∧bE x u
 | _,_,_,_,.nil,e=>by simp at e
 | _,_,0,_,.cons r _,e=>by simp at e;subst e;exact⟨_,rfl,r⟩
 | _,_,i+1,x,.cons _ t,e=>by
  obtain⟨u,h1,h2⟩:=bV.get (i:=i) (x:=x) t (by simpa using e);exact⟨u,by simpa using h1,h2⟩
theorem bV.append:∀ {xs ys:List V} {us ws:List Value},bV xs us->bV ys ws->bV (xs++ys) (us++ws)
 | _,_,_,_,.nil,s=>s
 | _,_,_,_,.cons r t,s=>.cons r (bV.append t s)
theorem bV.take:∀ {xs:List V} {us:List Value} (n:Nat),bV xs us->bV (xs.take n) (us.take n)
 | _,_,0,_=>.nil
 | _,_,_+1,.nil=>.nil
 | _,_,n+1,.cons r t=>.cons r (bV.take n t)
theorem bV.drop:∀ {xs:List V} {us:List Value} (n:Nat),bV xs us->bV (xs.drop n) (us.drop n)
 | _,_,0,r=>r
 | _,_,_+1,.nil=>.nil
 | _,_,n+1,.cons _ t=>bV.drop n t
def jG:Option V->Option Value->Prop
 | some v,some u=>bE v u
 | none,none=>True
 | _,_=>False
def KV {κ:Type}:List (κ×V)->List (κ×Value)->Prop:=Paired fun (p:κ×V) (q:κ×Value)=>p.1=q.1∧bE p.2 q.2
def kV:Key->V
 | .inl i=>.int i
 | .inr x=>.str x
inductive HO where
 | lst (xs:List V)
 | tup (xs:List V)
 | dK (kvs:List (Key×V)) | dT (kvs:List (List Key×V))
 | set (S:Int->Bool) (n:Nat)
 | ins (C dx:Addr) (fs:List (Str×V))
 | own (x:Addr)
 | xd (fs:List (Str×V))
 | met (f x:Addr)
 | rng (lo hi:Int)
 | frz (o:Obj) (u:HO)
 | tbl (ps:Array Value)
 | ext (φ:Heap->Prop)
abbrev Hp:=Addr->Option HO
def upd (H:Hp)(a:Addr)(o:HO):Hp:=fun b=>if b=a then some o else H b
theorem aD {H:Hp}{a:Addr}{o:HO}:upd H a o a=some o:=by unfold upd;rw[if_pos rfl]
theorem aM {H:Hp}{a b:Addr}{o:HO}(h:b≠a):upd H a o b=H b:=by unfold upd;rw[if_neg h]
theorem Hu {H:Hp}{a:Addr}{o u:HO}:upd (upd H a o) a u=upd H a u:=by
 funext b;unfold upd;split <;> rfl
theorem Yt {H:Hp}{a b:Addr}{o u:HO}(h:H a=some o)(h':H b=some u)(d:o≠u):a≠b:=by
 intro e;subst e;rw[h] at h';exact d (a8 h')
theorem aO {H:Hp}{a b:Addr}{o:HO}(h:H a=some o)(h':H b=none):a≠b:=by
 intro e;subst e;rw[h] at h';cases h'
section
variable (P:Program)(w:World)
def cK (H:Hp)(h:Heap)(a:Addr):HO->Prop
 | .lst xs=>xs.length<=sizeLine∧∃ (its:List Value) (n:Nat),bV xs its∧h.get? a=some { cls:=.type "list",data:=.seq its.toArray n }
 | .tup xs=>xs.length<=sizeLine∧∃ its:List Value,bV xs its∧IsTup h a its.toArray
 | .dK kvs=>kvs.length<=sizeLine∧(a==sysModules)=false∧∃ vs,KV kvs vs∧h.DictOf (bD P w) a vs
 | .dT kvs=>kvs.length<=sizeLine∧(a==sysModules)=false∧∃ xs:List (List Key×Addr×Value),
  Paired (fun (p:List Key×V) (q:List Key×Addr×Value)=>p.1=q.1∧H q.2.1=some (.tup (p.1.map kV))∧bE p.2 q.2.2) kvs xs ∧
  ∃ o es ep,h.get? a=some o∧o.ExactDict∧o.data = .dict es ep∧es.toList=xs.map (entryOfKey (tupleKind (bD P w)))∧(xs.map (·.1)).Nodup
 | .set S n=>h.SetOf (intKind P w) a S n
 | .ins C dx fs=>H dx=some (.own a)∧fs.length<=1000∧dx≠a∧h.get? a=some (gv C dx) ∧
  ∃ mA,h.Ns1 dx mA∧(∀ f,jG (fs.lookup f) (mA f))∧qz mA (fs.map (·.1))
 | .own _=>∃ o,h.get? a=some o
 | .xd fs=>∃ mA,h.Ns1 a mA∧∀ f,jG (fs.lookup f) (mA f)
 | .rng lo hi=>∃ t u v,h.get? a=some { cls:=.type "range",data:=.fields #[.int lo t,.int hi u,.int 1 v] }
 | .frz o u=>h.get? a=some o∧cK H h a u
 | .tbl ps=>h.get? a=some { cls:=.none,data:=.fields ps }
 | .met f x=>h.get? a=some (m7 (.ref f) (.ref x))
 | .ext φ=>φ h∧(∃ o,h.get? a=some o)∧∀ h1 h2:Heap,φ h1->(∀ o,h1.get? a=some o->h2.get? a=some o)->φ h2
def HOk (H:Hp)(h:Heap):Prop:=∀ a o,H a=some o->cK P w H h a o
end
section
variable {P:Program}{w:World}{H H':Hp}{h h':Heap}{a:Addr}{o:HO}
theorem cK.lt (x:cK P w H h a o):a<h.objs.size:=by
 cases o with
 | lst xs=>obtain⟨_,_,_,_,e⟩:=x;exact Heap.lt_size e
 | tup xs=>obtain⟨_,_,_,p⟩:=x;exact p.lt
 | dK kvs=>obtain⟨_,_,_,_,o,_,_,e,_⟩:=x;exact Heap.lt_size e
 | dT kvs=>obtain⟨_,_,_,_,o,_,_,e,_⟩:=x;exact Heap.lt_size e
 | set S n=>obtain⟨o,_,_,_,e,_⟩:=x;exact Heap.lt_size e
 | ins C dx fs=>obtain⟨_,_,_,e,_⟩:=x;exact Heap.lt_size e
 | own y=>obtain⟨_,e⟩:=x;exact Heap.lt_size e
 | xd fs=>obtain⟨_,⟨_,_,_,e,_⟩,_⟩:=x;exact Heap.lt_size e
 | rng lo hi=>obtain⟨_,_,_,e⟩:=x;exact Heap.lt_size e
 | frz ob u=>obtain⟨e,_⟩:=x;exact Heap.lt_size e
 | tbl ps=>exact Heap.lt_size (show h.get? a=some _ from x)
 | met f y=>exact Heap.lt_size (show h.get? a=some _ from x)
 | ext φ=>obtain⟨_,⟨_,e⟩,_⟩:=x;exact Heap.lt_size e
theorem Paired.mapP {α β:Type}{F G:α->β->Prop}:∀ {l₁:List α} {l₂:List β},Paired F l₁ l₂->(∀ a b,F a b->G a b)->Paired G l₁ l₂
 | _,_,.nil,_=>.nil
 | _,_,.cons r t,f=>.cons (f _ _ r) (Paired.mapP t f)
theorem cK.stay (x:cK P w H h a o)(k:∀ b u,(b=a∨H b=some (.own a))->h.get? b=some u->h'.get? b=some u)
  (ho:∀ b,H b=some (.own a)->H' b=some (.own a)) (ht:∀ b xs,H b=some (.tup xs)->H' b=some (.tup xs)):cK P w H' h' a o:=by
 induction o with
 | lst xs=>obtain⟨z,its,n,r,e⟩:=x;exact⟨z,its,n,r,k _ _ (.inl rfl) e⟩
 | tup xs=>obtain⟨z,its,r,ob,e,c⟩:=x;exact⟨z,its,r,ob,k _ _ (.inl rfl) e,c⟩
 | dK kvs=>obtain⟨z,y,vs,r,ob,es,ep,e,c⟩:=x;exact⟨z,y,vs,r,ob,es,ep,k _ _ (.inl rfl) e,c⟩
 | dT kvs =>
  obtain⟨z,y,xs,r,ob,es,ep,e,c⟩:=x;exact⟨z,y,xs,Paired.mapP r fun p q z=>⟨z.1,ht _ _ z.2.1,z.2.2⟩,ob,es,ep,k _ _ (.inl rfl) e,c⟩
 | set S n=>obtain⟨ob,es,ep,t,e,c⟩:=x;exact⟨ob,es,ep,t,k _ _ (.inl rfl) e,c⟩
 | ins C dx fs =>
  obtain⟨d,z,ne,e,mA,⟨od,es,ep,e2,c⟩,r⟩:=x;exact⟨ho _ d,z,ne,k _ _ (.inl rfl) e,mA,⟨od,es,ep,k _ _ (.inr d) e2,c⟩,r⟩
 | own y=>obtain⟨ob,e⟩:=x;exact⟨ob,k _ _ (.inl rfl) e⟩
 | xd fs=>obtain⟨mA,⟨od,es,ep,e,c⟩,r⟩:=x;exact⟨mA,⟨od,es,ep,k _ _ (.inl rfl) e,c⟩,r⟩
 | rng lo hi=>obtain⟨t,u,v,e⟩:=x;exact⟨t,u,v,k _ _ (.inl rfl) e⟩
 | frz ob u ih=>obtain⟨e,q⟩:=x;exact⟨k _ _ (.inl rfl) e,ih q⟩
 | tbl ps =>
  have e:h.get? a=some { cls:=.none,data:=.fields ps }:=x;show h'.get? a=some { cls:=.none,data:=.fields ps };exact k a _ (.inl rfl) e
 | met f y =>
  have e:h.get? a=some (m7 (.ref f) (.ref y)):=x;show h'.get? a=some (m7 (.ref f) (.ref y));exact k a _ (.inl rfl) e
 | ext φ=>obtain⟨p,⟨o,e⟩,st⟩:=x;exact⟨st _ _ p fun o q=>k _ _ (.inl rfl) q,⟨o,k _ _ (.inl rfl) e⟩,st⟩
theorem HOk.lt (x:HOk P w H h)(e:H a=some o):a<h.objs.size:=(x a o e).lt
theorem HOk.fresh (x:HOk P w H h)(e:h.objs.size<=a):H a=none:=by
 cases q:H a with
 | none=>rfl
 | some u=>exact absurd (bx (x.lt q) e) (ej _)
theorem HOk.kept (x:HOk P w H h)(k:∀ b u,h.get? b=some u->h'.get? b=some u):HOk P w H h':=fun a o e =>
 (x a o e).stay (fun b u _ q=>k b u q) (fun _ q=>q) fun _ _ q=>q
theorem HOk.laid (x:HOk P w H h)(k:∀ b u,h.get? b=some u->h'.get? b=some u)(hp:h.objs.size<=a)(new:cK P w (upd H a o) h' a o):HOk P w (upd H a o) h':=fun b u e=>by
 have hn:=x.fresh hp;by_cases hb:b=a
 ·subst hb;rw[aD] at e;cases e;exact new
 ·rw[aM hb] at e
  exact (x b u e).stay (fun c v _ q=>k c v q) (fun c q=>by rw[aM (aO q hn)];exact q) fun c xs q=>by rw[aM (aO q hn)];exact q
end
def Rd (H:Hp)(a:Addr)(u:HO):Prop:=H a=some u∨∃ o,H a=some (.frz o u)
theorem Rd.ok {P:Program}{w:World}{H:Hp}{h:Heap}{a:Addr}{u:HO}(r:Rd H a u)(x:HOk P w H h):cK P w H h a u:=by
 rcases r with r | ⟨o,r⟩
 ·exact x a u r
 ·obtain⟨_,q⟩:=x a _ r
  exact q
def Mut:Option HO->Prop
 | some (.lst _)=>True
 | some (.dK _)=>True
 | some (.dT _)=>True
 | some (.set _ _)=>True
 | some (.ins _ _ _)=>True
 | some (.ext _)=>True
 | _=>False
section
variable {P:Program}{w:World}{H:Hp}{h h':Heap}{x e:Addr}{o':HO}
theorem HOk.write (ok:HOk P w H h)(mu:Mut (H x))(he:e=x∨H e=some (.own x))(k:∀ b u,b≠e->h.get? b=some u->h'.get? b=some u)(heo:∃ u,h'.get? e=some u)
  (new:cK P w (upd H x o') h' x o'):HOk P w (upd H x o') h':=fun b u q=>by
 have nown:∀ c y,H c=some (.own y)->c≠x:=fun c y r z=>by subst z;rw[r] at mu;exact mu
 have ntup:∀ c xs,H c=some (.tup xs)->c≠x:=fun c xs r z=>by subst z;rw[r] at mu;exact mu
 by_cases hb:b=x
 ·subst hb;rw[aD] at q;cases q;exact new
 ·rw[aM hb] at q
  by_cases hbe:b=e
  ·have q':H b=some (.own x):=by
    rcases he with z | z
    ·exact absurd (hbe.trans z) hb
    ·rw[hbe];exact z
   rw[q] at q';cases q';obtain⟨v,hv⟩:=heo;exact⟨v,by rw[hbe];exact hv⟩
  ·refine (ok b u q).stay (fun c v hc r=>k c v ?_ r) (fun c r=>by rw[aM (nown c b r)];exact r) fun c xs r=>by rw[aM (ntup c xs r)];exact r
   rcases hc with rfl | hc
   ·exact hbe
   ·rintro rfl
    rcases he with z | z
    ·exact nown c b hc z
    ·rw[hc] at z;cases z;exact hb rfl
end
structure Un (fs ex:List Addr)(H H':Hp)(h h':Heap):Prop where
 keep:∀ b o,h.get? b=some o->H b=none->b∉fs->b∉ex->h'.get? b=some o
 slot:∀ b o,h.get? b=some o->H b=none->b∈fs->b∉ex->∃ sl,h'.get? b=some { o with slots:=sl }
 free:∀ b o,h.get? b=some o->H b=none->b∉ex->H' b=none
 there:∀ b o,h.get? b=some o->b∉ex->∃ o',h'.get? b=some o'
 tups:∀ b xs,H b=some (.tup xs)->H' b=some (.tup xs)
 frzs:∀ b o u,H b=some (.frz o u)->H' b=some (.frz o u)
 tbls:∀ b ps,H b=some (.tbl ps)->∃ more,H' b=some (.tbl (ps++more))
section
variable {fs fs' ex ex':List Addr}{H H1 H2:Hp}{h h1 h2 h':Heap}{a x e:Addr}{o:HO}
theorem Un.any (u:Un fs ex H H1 h h1){b:Addr}{ob:Obj}(q:h.get? b=some ob)(n:H b=none)(hx:b∉ex):∃ sl,h1.get? b=some { ob with slots:=sl }:=by
 by_cases hb:b∈fs
 ·exact u.slot b ob q n hb hx
 ·exact⟨ob.slots,u.keep b ob q n hb hx⟩
theorem Un.kept (k:∀ b u,h.get? b=some u->h'.get? b=some u):Un fs ex H H h h' :=
 ⟨fun b ob q _ _ _=>k b ob q,fun b ob q _ _ _=>⟨ob.slots,k b ob q⟩,fun _ _ _ n _=>n,fun b ob q _=>⟨ob,k b ob q⟩,fun _ _ q=>q,fun _ _ _ q=>q,fun _ ps q=>⟨#[],by rw[q];simp⟩⟩
theorem Un.refl:Un fs ex H H h h:=Un.kept fun _ _ q=>q
theorem Un.laid (k:∀ b u,h.get? b=some u->h'.get? b=some u)(hp:h.objs.size<=a)(hn:H a=none):Un fs ex H (upd H a o) h h' where
 keep:=fun b u q _ _ _=>k b u q
 slot:=fun b u q _ _ _=>⟨u.slots,k b u q⟩
 free:=fun b u q n _=>by rw[aM (bb (bx (Heap.lt_size q) hp))];exact n
 there:=fun b u q _=>⟨u,k b u q⟩
 tups:=fun b xs q=>by rw[aM (aO q hn)];exact q
 frzs:=fun b u xs q=>by rw[aM (aO q hn)];exact q
 tbls:=fun b ps q=>⟨#[],by rw[aM (aO q hn),q];simp⟩
theorem Un.write (mu:Mut (H x))(he:e=x∨H e=some (.own x))(k:∀ b u,b≠e->h.get? b=some u->h'.get? b=some u)(heo:∃ u,h'.get? e=some u):Un fs ex H (upd H x o) h h':=by
 have hx:∀ b,H b=none->b≠x:=fun b n z=>by subst z;rw[n] at mu;exact mu
 have hb:∀ b,H b=none->b≠e:=fun b n z=>by
  subst z;rcases he with r | r
  ·exact hx b n r
  ·rw[n] at r;cases r
 have hm:∀ b u,H b=some u->¬ Mut (some u)->b≠x:=fun b u q nm z=>by subst z;rw[q] at mu;exact nm mu
 refine⟨fun b u q n _ _=>k b u (hb b n) q,fun b u q n _ _=>⟨u.slots,k b u (hb b n) q⟩,fun b u q n _=>by rw[aM (hx b n)];exact n,fun b u q _=>?_,
  fun b xs q=>by rw[aM (hm b _ q fun z=>z)];exact q,fun b u xs q=>by rw[aM (hm b _ q fun z=>z)];exact q,fun b ps q=>⟨#[],by rw[aM (hm b _ q fun z=>z),q];simp⟩⟩
 by_cases hbe:b=e
 ·subst hbe;exact heo
 ·exact⟨u,k b u hbe q⟩
end
def trk (h:Heap)(H:Hp):List Addr:=(cp h.objs.size).filter fun a=>(H a).isSome
def zU (h:Heap)(H:Hp):Heap:=tm h (trk h H)
theorem Kr (h:Heap)(H:Hp):(zU h H).objs.size=h.objs.size:=PySem.W.hideAll_size _ _
theorem Mt {h:Heap}{H:Hp}{b:Addr}{o:Obj}(e:h.get? b=some o)(n:H b=none):(zU h H).get? b=some o :=
 j7 _ e fun hm=>by
  have q:(H b).isSome=true:=(cc.mp hm).2;rw[n] at q;simp at q
theorem Uh {h:Heap}{H:Hp}{b:Addr}{o:Obj}(e:(zU h H).get? b=some o):h.get? b=some o∧H b=none:=by
 have e':h.get? b=some o:=ql (trk h H) e;refine⟨e',?_⟩
 cases q:H b with
 | none=>rfl
 | some x =>
  have hm:b∈trk h H:=cc.mpr ⟨cr.mpr (Heap.lt_size e'),by simp[q]⟩;have z:(zU h H).get? b=none:=PySem.W.hideAll_none (trk h H) hm;rw[z] at e;cases e
def Sl (g h:Heap)(L:Addr):List (Addr×Obj):=(cp h.objs.size).filterMap fun a=>if a=L∨(g.get? a).isSome=true then none else (h.get? a).map fun o=>(a,o)
def rest (g h:Heap)(L d:Addr):List (Addr×Obj):=(Sl g h L).filter fun p=>decide (p.1≠d)
structure Mod (K:ae)(mg:Str->Option Value)(base:Heap):Prop where
 kin:K.In base
 glob:base.Ns mainGlobals mg
 blt:∃ mb,base.Ns builtinsNs mb∧∀ x:Str,x ≠ "__name__" -> mb x=bootBuiltins x
 nolimit:base.NoLimit
structure Cx where
 prog:Program
 w:World
 K:ae
 mg:Str->Option Value
 base:Heap
 A:Around
 N:List Str
 s₀:Shared
 H₀:Hp
 env:Env
 outer:List Env
 stack:List Env
 ex:List Addr
 fn:Str->Bool
 calm:Bool
 pn:List (Addr×Obj)
 xe:Value->Shared->Prop
def frs (l:List Env):List Addr:=l.filterMap (·.frame)
abbrev Cx.fs (X:Cx):List Addr:=frs X.outer
def Vis (sc:Scope)(x:Str):Prop:=sc.names.lookup x=some .local∨sc.names.lookup x=some .cell∨sc.names.lookup x=some .free
def Loc (sc:Scope)(x:Str):Prop:=sc.names.lookup x=some .local∨sc.names.lookup x=some .cell
def aAn (env:Env)(h:Heap)(m:Str->Option Value)(x:Str)(u:Value):Prop :=
 (env.kindOf x=some .local∧m x=some u)∨((env.kindOf x=some .cell∨env.kindOf x=some .free)∧∃ c,env.cells.lookup x=some c∧h.IsCell c (some u))
structure Cx.Ok (X:Cx):Prop where
 mod:Mod X.K X.mg X.base
 kind:X.env.scope.kind = .function
 glob:X.env.globals=mainGlobals
 blt:X.env.builtins=builtinsNs
 above:X.s₀.heap.objs.size<=X.env.locals
 inj:∀ x y c,X.env.cells.lookup x=some c->X.env.cells.lookup y=some c->x=y
 has:∀ x,(X.env.kindOf x=some .cell∨X.env.kindOf x=some .free)->∃ c,X.env.cells.lookup x=some c
 cab:∀ x c,X.fn x=true->X.env.cells.lookup x=some c->X.s₀.heap.objs.size<=c
 hd:X.calm=true->X.A.handled=none
 frames:X.A.frames=some X.stack
 stk:X.stack=X.outer∨(X.stack=X.env::X.outer∧X.env.frame=some X.env.locals)
 exf:∀ b∈X.ex,b≠X.env.locals∧∀ x c,X.env.cells.lookup x=some c->c≠b
 bs:∀ b o,X.base.get? b=some o->X.s₀.heap.get? b=some o∧X.H₀ b=none
 bsz:X.base.objs.size<=X.s₀.heap.objs.size
 noex:∀ b o,X.base.get? b=some o->b∉X.ex
 exfs:∀ b∈X.ex,b∉X.fs
 funs:X.s₀.heap.FunFrames X.base X.outer
 frf:∀ b∈X.fs,X.H₀ b=none
structure Inv (X:Cx)(pins:List (Addr×Obj))(σ:List (Option V))(H:Hp)(s:Shared):Prop where
 ok:X.Ok
 os:s.os=X.s₀.os
 bare:AllBare s.gens
 base:Un X.fs X.ex X.H₀ H X.s₀.heap s.heap
 loc:∃ m,s.heap.Ns X.env.locals m∧∀ (i:Nat) (x:Str) (v:V),X.N[i]?=some x->σ[i]?=some (some v)->Vis X.env.scope x->∃ u,bE v u∧aAn X.env s.heap m x u
 cell:∀ x c,X.env.cells.lookup x=some c->∃ v,s.heap.IsCell c v
 free:H X.env.locals=none
 freeC:∀ x c,X.env.cells.lookup x=some c->H c=none
 pin:∀ p∈X.pn++pins,s.heap.get? p.1=some p.2∧H p.1=none∧p.1≠X.env.locals∧p.1∉X.fs∧∀ v,p.2.data≠.cell v
 hok:HOk X.prog X.w H s.heap
 len:σ.length=X.N.length
section
variable {X:Cx}{pins:List (Addr×Obj)}{σ:List (Option V)}{H H':Hp}{s:Shared}{h':Heap}
theorem Cx.Ok.nofr (ok:X.Ok){b:Addr}{o:Obj}(e:X.base.get? b=some o):b∉X.fs:=fun hb=>by
 have:=(ok.funs.mem hb).1
 rw[e] at this;cases this
theorem Inv.bs (I:Inv X pins σ H s):∀ b o,X.base.get? b=some o->s.heap.get? b=some o∧H b=none:=fun b o e =>
 ⟨I.base.keep b o (I.ok.bs b o e).1 (I.ok.bs b o e).2 (I.ok.nofr e) (I.ok.noex b o e),I.base.free b o (I.ok.bs b o e).1 (I.ok.bs b o e).2 (I.ok.noex b o e)⟩
theorem Inv.bk (I:Inv X pins σ H s):∀ b o,X.base.get? b=some o->s.heap.get? b=some o:=fun b o e=>(I.bs b o e).1
theorem Inv.mod (I:Inv X pins σ H s):Mod X.K X.mg X.base:=I.ok.mod
theorem Inv.kIn (I:Inv X pins σ H s):X.K.In s.heap:=I.ok.mod.kin.keeps I.bk
theorem Inv.lt (I:Inv X pins σ H s):X.env.locals<s.heap.objs.size:=let ⟨_,hn,_⟩:=I.loc;hn.lt
theorem Inv.sz (I:Inv X pins σ H s):X.s₀.heap.objs.size<=s.heap.objs.size:=av I.ok.above (j4 I.lt)
theorem Inv.nofs (I:Inv X pins σ H s){a:Addr}(h:s.heap.objs.size<=a):a∉X.fs:=fun hb=>by
 obtain⟨_,o,ho,_⟩:=I.ok.funs.mem hb;exact absurd (bx (Heap.lt_size ho) (av I.sz h)) (ej _)
theorem Inv.cne (I:Inv X pins σ H s):∀ x c,X.env.cells.lookup x=some c->c≠X.env.locals:=fun x c e z=>by
 obtain⟨v,o,ho,hd⟩:=I.cell x c e;obtain⟨m,⟨o',es,ep,ho',hd',_⟩,_⟩:=I.loc;rw[z,ho'] at ho;cases ho;rw[hd'] at hd;cases hd
theorem Inv.funs (I:Inv X pins σ H s):s.heap.FunFrames X.base X.outer:=by
 have all:∀ (l:List Env),(∀ b∈frs l,b∈X.fs)->X.s₀.heap.FunFrames X.base l->s.heap.FunFrames X.base l:=by
  intro l
  induction l with
  | nil=>intro _ _;trivial
  | cons env r ih =>
   intro hs hl;obtain⟨hk,⟨L,o,hf,hn,ho,hd⟩,hr⟩:=hl;have hL:L∈X.fs:=hs L (by unfold frs;rw[gx,hf];exact al);obtain⟨sl,e⟩:=I.base.slot L o ho (I.ok.frf L hL) hL fun z=>I.ok.exfs L z hL
   exact⟨hk,⟨L,_,hf,hn,e,hd⟩,ih (fun b hb=>hs b (by unfold frs;rw[gx,hf];exact aj _ hb)) hr⟩
 exact all X.outer (fun _ hb=>hb) I.ok.funs
theorem Inv.stack (I:Inv X pins σ H s):s.heap.FunFrames X.base X.stack:=by
 rcases I.ok.stk with e | ⟨e,hf⟩
 ·rw[e];exact I.funs
 ·rw[e]
  obtain⟨m,hn,_⟩:=I.loc;refine .cons (by rw[I.ok.kind];decide) hf hn ?_ I.funs;exact Heap.get?_none_of_le (av I.ok.bsz I.ok.above)
theorem Inv.stkSub (I:Inv X pins σ H s):∀ b∈frs X.stack,b∈X.env.locals::X.fs:=fun b hb=>by
 rcases I.ok.stk with e | ⟨e,hf⟩
 ·rw[e] at hb;exact aj _ hb
 ·rw[e] at hb
  unfold frs at hb;rw[gx,hf] at hb;exact hb
theorem Inv.stkFree (I:Inv X pins σ H s):∀ b∈frs X.stack,H b=none:=fun b hb=>by
 rcases ar.mp (I.stkSub b hb) with e | hb
 ·rw[e];exact I.free
 ·obtain⟨_,o,ho,_⟩:=I.ok.funs.mem hb
  exact I.base.free b o ho (I.ok.frf b hb) fun z=>I.ok.exfs b z hb
theorem Inv.step {g':Array GenState}{t':Nat}{d':Drawn}{ch:List Addr}(I:Inv X pins σ H s)
  (hch:∀ b∈ch,(b∈X.ex∨X.s₀.heap.objs.size<=b)∧b≠X.env.locals∧(∀ x c,X.env.cells.lookup x=some c->c≠b)∧∀ p∈X.pn++pins,p.1≠b)
  (keep:∀ b o,b≠X.env.locals->b∉X.fs->b∉ch->s.heap.get? b=some o->H b=none->h'.get? b=some o)
  (slot:∀ b o,b≠X.env.locals->b∈X.fs->b∉ch->s.heap.get? b=some o->H b=none->∃ sl,h'.get? b=some { o with slots:=sl }) (free:∀ b o,b∉ch->s.heap.get? b=some o->H b=none->H' b=none)
  (there:∀ b o,b∉ch->s.heap.get? b=some o->∃ o',h'.get? b=some o')
  (tups:∀ b xs,H b=some (.tup xs)->H' b=some (.tup xs)) (frzs:∀ b o u,H b=some (.frz o u)->H' b=some (.frz o u)) (tbls:∀ b ps,H b=some (.tbl ps)->∃ more,H' b=some (.tbl (ps++more)))
  (ns:∀ m,s.heap.Ns X.env.locals m->h'.Ns X.env.locals m) (hok:HOk X.prog X.w H' h') (hg:AllBare g') :
  Inv X pins σ H' { s with heap:=h',gens:=g',drawn:=d',toks:=t' }:=by
 have neL:∀ b o,X.s₀.heap.get? b=some o->b≠X.env.locals:=fun b o e=>bb (bx (Heap.lt_size e) I.ok.above)
 have neC:∀ b o,X.s₀.heap.get? b=some o->b∉X.ex->b∉ch:=fun b o e hx hb=>by
  rcases (hch b hb).1 with z | z
  ·exact hx z
  ·exact absurd (bx (Heap.lt_size e) z) (ej _)
 have cellK:∀ x c,X.env.cells.lookup x=some c->∀ v,s.heap.IsCell c v->h'.IsCell c v:=fun x c e v ⟨o,ho,hd⟩=>by
  have nch:c∉ch:=fun z=>(hch c z).2.2.1 x c e rfl
  by_cases hc:c∈X.fs
  ·obtain⟨sl,q⟩:=slot c o (I.cne x c e) hc nch ho (I.freeC x c e)
   exact⟨_,q,hd⟩
  ·exact⟨o,keep c o (I.cne x c e) hc nch ho (I.freeC x c e),hd⟩
 refine⟨I.ok,I.os,hg,⟨fun b o e n hb hx=>?_,fun b o e n hb hx=>?_,fun b o e n hx=>?_,fun b o e hx=>?_,fun b xs e=>tups b xs (I.base.tups b xs e),fun b o xs e=>frzs b o xs (I.base.frzs b o xs e),fun b ps e=>?_⟩,?_,fun x c e=>?_,?_,fun x c e=>?_,fun p hp=>?_,hok,I.len⟩
 ·exact keep b o (neL b o e) hb (neC b o e hx) (I.base.keep b o e n hb hx) (I.base.free b o e n hx)
 ·obtain⟨sl,e1⟩:=I.base.slot b o e n hb hx
  obtain⟨sl',e2⟩:=slot b _ (neL b o e) hb (neC b o e hx) e1 (I.base.free b o e n hx);exact⟨sl',e2⟩
 ·obtain⟨o',e1⟩:=I.base.there b o e hx
  exact free b o' (neC b o e hx) e1 (I.base.free b o e n hx)
 ·obtain⟨o',e1⟩:=I.base.there b o e hx
  exact there b o' (neC b o e hx) e1
 ·obtain⟨m1,e1⟩:=I.base.tbls b ps e
  obtain⟨m2,e2⟩:=tbls b _ e1;exact⟨m1++m2,by rw[e2,mm]⟩
 ·obtain⟨m,hn,hl⟩:=I.loc
  refine⟨m,ns m hn,fun i x v e1 e2 e3=>?_⟩;obtain⟨u,r,l⟩:=hl i x v e1 e2 e3;refine⟨u,r,?_⟩;rcases l with l | ⟨k,c,e,z⟩
  ·exact .inl l
  ·exact .inr ⟨k,c,e,cellK x c e _ z⟩
 ·obtain⟨v,z⟩:=I.cell x c e
  exact⟨v,cellK x c e v z⟩
 ·obtain⟨m,⟨o,_,_,ho,_⟩,_⟩:=I.loc
  exact free _ o (fun z=>(hch _ z).2.1 rfl) ho I.free
 ·obtain⟨v,o,ho,hd⟩:=I.cell x c e
  exact free c o (fun z=>(hch c z).2.2.1 x c e rfl) ho (I.freeC x c e)
 ·obtain⟨e,n,ne,nf,d⟩:=I.pin p hp
  have nch:p.1∉ch:=fun z=>(hch p.1 z).2.2.2 p hp rfl
  exact⟨keep p.1 p.2 ne nf nch e n,free p.1 p.2 nch e n,ne,nf,d⟩
theorem Inv.un {t':Nat}(I:Inv X pins σ H s)(u:Un X.fs [] H H' s.heap h')(hok:HOk X.prog X.w H' h'):Inv X pins σ H' { s with heap:=h',toks:=t' }:=by
 obtain⟨m,⟨o,es,ep,ho,r⟩,_⟩:=id I.loc;obtain⟨sl,hL⟩:=u.any ho I.free (by simp);exact I.step (g':=s.gens) (d':=s.drawn) (ch:=[]) (fun _ z=>nomatch z) (fun b o _ hb _ e n=>u.keep b o e n hb (by simp)) (fun b o _ hb _ e n=>u.slot b o e n hb (by simp)) (fun b o _ e n=>u.free b o e n (by simp)) (fun b o _ e=>u.there b o e (by simp)) u.tups u.frzs u.tbls (fun m' hm=>by
  obtain⟨o',es',ep',ho',r'⟩:=hm;rw[ho] at ho';cases ho';exact⟨_,es',ep',hL,r'⟩) hok I.bare
theorem Inv.call {g':Array GenState}{t':Nat}{d':Drawn}{ch:List Addr}(I:Inv X pins σ H s)(u:Un (frs X.stack) ch H H' s.heap h')(hok:HOk X.prog X.w H' h')(hg:AllBare g')
  (hch:∀ b∈ch,(b∈X.ex∨X.s₀.heap.objs.size<=b)∧b≠X.env.locals∧(∀ x c,X.env.cells.lookup x=some c->c≠b)∧∀ p∈X.pn++pins,p.1≠b) :
  Inv X pins σ H' { s with heap:=h',gens:=g',drawn:=d',toks:=t' }:=by
 obtain⟨m,⟨o,es,ep,ho,r⟩,_⟩:=id I.loc;obtain⟨sl,hL⟩:=u.any ho I.free fun z=>(hch _ z).2.1 rfl
 exact I.step (ch:=ch) hch (fun b o hL hb hc e n=>u.keep b o e n (fun z=>(ar.mp (I.stkSub b z)).elim hL hb) hc) (fun b o _ _ hc e n=>u.any e n hc) (fun b o hc e n=>u.free b o e n hc) (fun b o hc e=>u.there b o e hc) u.tups u.frzs u.tbls (fun m' hm=>by
  obtain⟨o',es',ep',ho',r'⟩:=hm;rw[ho] at ho';cases ho';exact⟨_,es',ep',hL,r'⟩) hok hg
theorem Inv.turned {t':Nat}{it:Addr}(I:Inv X pins σ H s)(k:∀ b o,b≠it->s.heap.get? b=some o->h'.get? b=some o)(hn:H it=none)(hL:it≠X.env.locals)
  (h1:it∈X.ex∨X.s₀.heap.objs.size<=it) (h2:∀ x c,X.env.cells.lookup x=some c->c≠it) (h3:∀ p∈X.pn++pins,p.1≠it):Inv X pins σ H { s with heap:=h',toks:=t' }:=by
 have nit:∀ b u,H b=some u->b≠it:=fun b u e z=>by rw[z,hn] at e;cases e
 refine I.step (g':=s.gens) (d':=s.drawn) (ch:=[it]) (fun b hb=>?_) (fun b o _ _ hc e _=>k b o (fun z=>hc (by simp[z])) e) (fun b o _ _ hc e _=>⟨o.slots,k b o (fun z=>hc (by simp[z])) e⟩) (fun _ _ _ _ n=>n)
  (fun b o hc e=>⟨o,k b o (fun z=>hc (by simp[z])) e⟩) (fun _ _ e=>e) (fun _ _ _ e=>e) (fun b ps e=>⟨#[],by rw[e];simp⟩) (fun m hm=>?_) (fun b u e=>?_) I.bare
 ·have e:b=it:=by simpa using hb
  subst e;exact⟨h1,hL,h2,h3⟩
 ·obtain⟨o,es,ep,ho,r⟩:=hm
  exact⟨o,es,ep,k _ o (Ne.symm hL) ho,r⟩
 ·refine (I.hok b u e).stay (fun c v hc q=>k c v ?_ q) (fun _ q=>q) fun _ _ q=>q
  rcases hc with z | z
  ·rw[z];exact nit b u e
  ·exact nit c _ z
theorem Inv.tok (I:Inv X pins σ H s)(t:Nat):Inv X pins σ H { s with toks:=t }:=I.un (h':=s.heap) (t':=t) Un.refl I.hok
theorem Inv.kept {t':Nat}(I:Inv X pins σ H s)(k:∀ b u,s.heap.get? b=some u->h'.get? b=some u):Inv X pins σ H { s with heap:=h',toks:=t' }:=I.un (Un.kept k) (I.hok.kept k)
theorem Inv.laid {a:Addr}{o:HO}{t':Nat}(I:Inv X pins σ H s)(k:∀ b u,s.heap.get? b=some u->h'.get? b=some u)(hp:s.heap.objs.size<=a)(new:cK X.prog X.w (upd H a o) h' a o) :
 Inv X pins σ (upd H a o) { s with heap:=h',toks:=t' }:=I.un (Un.laid k hp (I.hok.fresh hp)) (I.hok.laid k hp new)
theorem Inv.write {x e:Addr}{o:HO}{t':Nat}(I:Inv X pins σ H s)(mu:Mut (H x))(he:e=x∨H e=some (.own x))(k:∀ b u,b≠e->s.heap.get? b=some u->h'.get? b=some u)(heo:∃ u,h'.get? e=some u)
 (new:cK X.prog X.w (upd H x o) h' x o):Inv X pins σ (upd H x o) { s with heap:=h',toks:=t' }:=I.un (Un.write mu he k heo) (I.hok.write mu he k heo new)
theorem Inv.pins_of {pins':List (Addr×Obj)}(I:Inv X pins σ H s)(h:∀ p∈pins',s.heap.get? p.1=some p.2∧H p.1=none∧p.1≠X.env.locals∧p.1∉X.fs∧∀ v,p.2.data≠.cell v):Inv X pins' σ H s :=
 ⟨I.ok,I.os,I.bare,I.base,I.loc,I.cell,I.free,I.freeC,fun p hp=>(bu.mp hp).elim (fun z=>I.pin p (im _ z)) (h p),I.hok,I.len⟩
theorem Aj {N:List Str}(hN:N.Nodup){i j:Nat}{x:Str}(a:N[i]?=some x)(b:N[j]?=some x):i=j:=by
 obtain⟨h1,e1⟩:=aw.mp a;obtain⟨h2,e2⟩:=aw.mp b;exact (List.getElem_inj hN).mp (e1.trans e2.symm)
theorem wQ {M:Model}{A:Around}{E:Value->Shared->Prop}{i:Nat}{x:Str}{v:V}{u:Value}{Q:Unit->Shared->Prop}(I:Inv X pins σ H s)(hN:X.N.Nodup)(hi:X.N[i]?=some x)(hx:Loc X.env.scope x)(r:bE v u)
  (h:∀ s',Inv X pins (σ.set i (some v)) H s'->(∃ a,Heap.SameBut a s.heap s'.heap∧(a=X.env.locals∨X.env.cells.lookup x=some a))->Q () s') (hf:X.fn x=true∨X.env.scope.names.lookup x=some .local:=by first | exact .inl rfl | exact .inr rfl | assumption):wpAny M A (storeName X.env x u) Q E s:=by
 obtain⟨m,hn,hl⟩:=id I.loc;have hcls:(X.env.scope.kind == .class||(X.env.scope.kind == .module&&X.env.locals != X.env.globals))=false:=by rw[I.ok.kind];rfl
 have hiσ:i<σ.length:=by rw[I.len];exact (aw.mp hi).1
 have cne:=I.cne;have tracked:∀ {a:Addr} {h':Heap},(∃ o,s.heap.get? a=some o∧H a=none)->Heap.SameBut a s.heap h'->HOk X.prog X.w H h':=fun {a h'} ha hs b ob e=>by
  obtain⟨_,_,hfree⟩:=ha;refine (I.hok b ob e).stay (fun c w' hc q=>(hs.2 c ?_).trans q) (fun _ q=>q) fun _ _ q=>q
  rintro rfl;rcases hc with rfl | hc
  ·rw[hfree] at e;cases e
  ·rw[hfree] at hc;cases hc
 rcases hx with hk | hk
 ·refine wpAny_storeName_local hk hn (fun h' hn' hs=>?_) hcls
  obtain⟨oL,_,_,hoL,_⟩:=id hn;refine h _ ⟨I.ok,I.os,I.bare,⟨fun b o e n hb hx=>?_,fun b o e n hb hx=>?_,I.base.free,fun b o e hx=>?_,I.base.tups,I.base.frzs,I.base.tbls⟩,⟨_,hn',fun j y v' e1 e2 e3=>?_⟩,fun y c e=>?_,I.free,I.freeC,fun p hp=>?_,tracked ⟨oL,hoL,I.free⟩ hs,by simpa using I.len⟩ ⟨_,hs,.inl rfl⟩
  ·exact (hs.2 b (bb (bx (Heap.lt_size e) I.ok.above))).trans (I.base.keep b o e n hb hx)
  ·obtain⟨sl,e1⟩:=I.base.slot b o e n hb hx
   exact⟨sl,(hs.2 b (bb (bx (Heap.lt_size e) I.ok.above))).trans e1⟩
  ·obtain⟨o',e1⟩:=I.base.there b o e hx
   exact⟨o',(hs.2 b (bb (bx (Heap.lt_size e) I.ok.above))).trans e1⟩
  ·by_cases hj:j=i
   ·subst hj
    rw[hi] at e1;cases e1;rw[ol hiσ] at e2;cases e2;exact⟨u,r,.inl ⟨hk,by simp⟩⟩
   ·rw[pq (Ne.symm hj)] at e2
    obtain⟨u',r',q⟩:=hl j y v' e1 e2 e3;refine⟨u',r',?_⟩;rcases q with ⟨k,e⟩ | ⟨k,c,e,z⟩
    ·refine .inl ⟨k,?_⟩
     have:y≠x:=fun e=>hj (Aj hN e1 (e▸hi))
     simp[this,e]
    ·exact .inr ⟨k,c,e,z.sameBut hs (cne y c e)⟩
  ·obtain⟨w',z⟩:=I.cell y c e
   exact⟨w',z.sameBut hs (cne y c e)⟩
  ·obtain⟨e,n,ne,nf,d⟩:=I.pin p hp
   exact⟨(hs.2 p.1 ne).trans e,n,ne,nf,d⟩
 ·have hfn:X.fn x=true:=by
   rcases hf with z | z
   ·exact z
   ·rw[z] at hk;cases hk
  obtain⟨c,hc⟩:=I.ok.has x (.inl hk);obtain⟨w',z⟩:=I.cell x c hc;refine wpAny_storeName_cell I.ok.kind hk hc z (fun h' hc' hs=>?_);obtain⟨oc,hoc,hocd⟩:=id z;refine h { s with heap:=h' } ⟨I.ok,I.os,I.bare,⟨fun b o e n hb hx=>?_,fun b o e n hb hx=>?_,I.base.free,fun b o e hx=>?_,I.base.tups,I.base.frzs,I.base.tbls⟩,⟨m,hn.sameBut hs (Ne.symm (cne x c hc)),fun j y v' e1 e2 e3=>?_⟩,fun y c' e=>?_,I.free,I.freeC,fun p hp=>?_,tracked ⟨oc,hoc,I.freeC x c hc⟩ hs,by simpa using I.len⟩ ⟨c,hs,.inr hc⟩
  ·exact (hs.2 b (bb (bx (Heap.lt_size e) (I.ok.cab x c hfn hc)))).trans (I.base.keep b o e n hb hx)
  ·obtain⟨sl,e1⟩:=I.base.slot b o e n hb hx
   exact⟨sl,(hs.2 b (bb (bx (Heap.lt_size e) (I.ok.cab x c hfn hc)))).trans e1⟩
  ·obtain⟨o',e1⟩:=I.base.there b o e hx
   exact⟨o',(hs.2 b (bb (bx (Heap.lt_size e) (I.ok.cab x c hfn hc)))).trans e1⟩
  ·by_cases hj:j=i
   ·subst hj
    rw[hi] at e1;cases e1;rw[ol hiσ] at e2;cases e2;exact⟨u,r,.inr ⟨.inl hk,c,hc,hc'⟩⟩
   ·rw[pq (Ne.symm hj)] at e2
    obtain⟨u',r',q⟩:=hl j y v' e1 e2 e3;refine⟨u',r',?_⟩;rcases q with q | ⟨k,c',e,z'⟩
    ·exact .inl q
    ·refine .inr ⟨k,c',e,z'.sameBut hs ?_⟩
     rintro rfl;exact hj (Aj hN e1 (I.ok.inj _ _ _ e hc▸hi))
  ·by_cases hcc:c'=c
   ·subst hcc;exact⟨_,hc'⟩
   ·obtain⟨w2,z2⟩:=I.cell y c' e
    exact⟨w2,z2.sameBut hs hcc⟩
  ·obtain⟨e,n,ne,nf,d⟩:=I.pin p hp
   refine⟨(hs.2 p.1 ?_).trans e,n,ne,nf,d⟩;intro q;rw[q,hoc] at e;have q':oc=p.2:=a8 e;exact d w' (by rw[<- q'];exact hocd)
theorem tR {M:Model}{A:Around}{E:Value->Shared->Prop}{i:Nat}{x:Str}{v:V}{u:Value}{Q:Unit->Shared->Prop}(I:Inv X pins σ H s)(hN:X.N.Nodup)(hi:X.N[i]?=some x)(hx:Loc X.env.scope x)(r:bE v u)
  (h:∀ s',Inv X pins (σ.set i (some v)) H s'->Q () s') (hf:X.fn x=true∨X.env.scope.names.lookup x=some .local:=by first | exact .inl rfl | exact .inr rfl | assumption):wpAny M A (storeName X.env x u) Q E s :=
 wQ I hN hi hx r (fun s' I' _=>h s' I') hf
theorem Inv.call' {s':Shared}{ch:List Addr}(I:Inv X pins σ H s)(ho:s'.os=s.os)(u:Un (frs X.stack) ch H H' s.heap s'.heap)(hok:HOk X.prog X.w H' s'.heap)(hg:AllBare s'.gens)
  (hch:∀ b∈ch,(b∈X.ex∨X.s₀.heap.objs.size<=b)∧b≠X.env.locals∧(∀ x c,X.env.cells.lookup x=some c->c≠b)∧∀ p∈X.pn++pins,p.1≠b):Inv X pins σ H' s':=by
 obtain⟨h',g',d',t',o'⟩:=s';have e:o'=s.os:=ho;subst e;exact I.call (g':=g') (t':=t') (d':=d') u hok hg hch
end
abbrev XK:=Value->Option Addr->Hp->Prop
abbrev St:=List (Option V)
abbrev VK:=V->Hp->Prop
abbrev TE:=St->Hp->VK->Prop
abbrev TT:=St->Hp->(Bool->Hp->Prop)->Prop
abbrev TA:=St->Hp->(List V->Hp->Prop)->Prop
structure kM where
 nx:St->Hp->Prop
 rt:VK
 bk:St->Hp->Prop:=fun _ _=>False
 ct:St->Hp->Prop:=fun _ _=>False
abbrev TS:=kM->St->Hp->Prop
def EP (X:Cx)(pins:List (Addr×Obj))(σ:St)(Q:VK)(u:Value)(s':Shared):Prop:=∃ v H',Inv X pins σ H' s'∧bE v u∧Q v H'
def TP (X:Cx)(pins:List (Addr×Obj))(σ:St)(Q:Bool->Hp->Prop)(b:Bool)(s':Shared):Prop:=∃ H',Inv X pins σ H' s'∧Q b H'
def AP (X:Cx)(pins:List (Addr×Obj))(σ:St)(Q:List V->Hp->Prop)(us:List Value)(s':Shared):Prop:=∃ vs H',Inv X pins σ H' s'∧bV vs us∧Q vs H'
def SP (X:Cx)(pins:List (Addr×Obj))(D:kM)(f:Flow)(s':Shared):Prop :=
 match f with
 | .next=>∃ σ' H',Inv X pins σ' H' s'∧D.nx σ' H'
 | .brk=>∃ σ' H',Inv X pins σ' H' s'∧D.bk σ' H'
 | .cont=>∃ σ' H',Inv X pins σ' H' s'∧D.ct σ' H'
 | .ret u=>∃ v σ' H',Inv X pins σ' H' s'∧bE v u∧D.rt v H'
def PE (X:Cx)(e:Expr)(t:TE):Prop :=
 ∀ (pins:List (Addr×Obj)) (s:Shared) (σ:St) (H:Hp) (Q:VK),Inv X pins σ H s->t σ H Q->wpAny (model X.prog X.w) X.A (eval e X.env) (EP X pins σ Q) X.xe s
def PT (X:Cx)(e:Expr)(t:TT):Prop :=
 ∀ (pins:List (Addr×Obj)) (s:Shared) (σ:St) (H:Hp) (Q:Bool->Hp->Prop),Inv X pins σ H s->t σ H Q->wpAny (model X.prog X.w) X.A (isTrue e X.env (eval e X.env)) (TP X pins σ Q) X.xe s
def PW (X:Cx)(e:Expr)(t:TT):Prop :=
 ∀ (whole:Sem Value) (pins:List (Addr×Obj)) (s:Shared) (σ:St) (H:Hp) (Q:Bool->Hp->Prop),Inv X pins σ H s->t σ H Q->wpAny (model X.prog X.w) X.A (isTrue e X.env whole) (TP X pins σ Q) X.xe s
theorem PW.pt {X:Cx}{e:Expr}{t:TT}(h:PW X e t):PT X e t:=h _
def PA (X:Cx)(es:List Expr)(t:TA):Prop :=
 ∀ (pos:Pos) (pins:List (Addr×Obj)) (s:Shared) (σ:St) (H:Hp) (Q:List V->Hp->Prop),Inv X pins σ H s->t σ H Q->wpAny (model X.prog X.w) X.A (spliced (backTo pos (starEach es X.env))) (AP X pins σ Q) X.xe s
def PS (X:Cx)(st:Stmt)(t:TS):Prop :=
 ∀ (pins:List (Addr×Obj)) (s:Shared) (σ:St) (H:Hp) (D:kM),Inv X pins σ H s->t D σ H->wpAny (model X.prog X.w) X.A (exec st X.env) (SP X pins D) X.xe s
def PSs (X:Cx)(st:List Stmt)(t:TS):Prop :=
 ∀ (pins:List (Addr×Obj)) (s:Shared) (σ:St) (H:Hp) (D:kM),Inv X pins σ H s->t D σ H->wpAny (model X.prog X.w) X.A (execs st X.env) (SP X pins D) X.xe s
theorem thn {α:Type}{t:Sem α}{Q Q':α->Shared->Prop}{M:Model}{A:Around}{E:Value->Shared->Prop}{s:Shared}(h:wpAny M A t Q E s)(hQ:∀ a s,Q a s->Q' a s):wpAny M A t Q' E s:=wpAny_mono h hQ fun _ _ x=>x
section
variable {X:Cx}
def Zt (i:Nat):TE:=fun σ H Q=>∃ v,σ[i]?=some (some v)∧Q v H
def tC (v:V):TE:=fun _ H Q=>Q v H
theorem Vq {i:Nat}{x:Str}{pos:Pos}(hN:X.N[i]?=some x)(hv:Vis X.env.scope x)(hd:(x==("__debug__" : Str))=false:=by decide)(hcd:(x==("__classdict__" : Str))=false:=by decide):PE X (.Name x pos) (Zt i):=by
 intro pins s σ H Q I h;obtain⟨v,e,h⟩:=h;obtain⟨m,hn,hl⟩:=I.loc;obtain⟨u,r,l⟩:=hl i x v hN e hv;have fin:EP X pins σ Q u s:=⟨v,H,I,r,h⟩;rcases l with ⟨hk,hm⟩ | ⟨hk,c,hc,hcell⟩
 ·exact wpAny_Name (wpAny_loadName_local I.ok.kind hk hn hm fin) hd
 ·rcases hk with hk | hk
  ·exact wpAny_Name (wpAny_loadName_cell I.ok.kind hk hc hcell fin) hd
  ·exact wpAny_Name (wpAny_loadName_free I.ok.kind hk hc hcell fin hcd) hd
theorem aG {i j pos}:PE X (.Constant (.int i) j pos) (tC (.int i)):=fun _ _ _ H _ I h=>wpAny_Constant_int ⟨.int i,H,I.tok _,⟨_,rfl⟩,h⟩
theorem pZ {b j pos}:PE X (.Constant (.bool b) j pos) (tC (.bl b)):=fun _ _ _ H _ I h=>Constant_bool ⟨.bl b,H,I,rfl,h⟩
theorem Fm {j pos}:PE X (.Constant .none j pos) (tC .non):=fun _ _ _ H _ I h=>Constant_none ⟨.non,H,I,rfl,h⟩
theorem Xs {x j pos}:PE X (.Constant (.str x) j pos) (tC (.str x)):=fun _ _ _ H _ I h=>Calls.Constant_str ⟨.str x,H,I.tok _,⟨_,rfl⟩,h⟩
def Gl (X:Cx)(x:Str):Prop:=X.env.kindOf x=some .globalImplicit
theorem rJ {E:Value->Shared->Prop}{pins:List (Addr×Obj)}{s:Shared}{σ:St}{H:Hp}{x:Str}{u:Value}{pos:Pos}{Q:Value->Shared->Prop}(I:Inv X pins σ H s)(hg:Gl X x)(hm:X.mg x=some u)(h:Q u s)
  (hd:(x==("__debug__" : Str))=false:=by decide):wpAny (model X.prog X.w) X.A (eval (.Name x pos) X.env) Q E s :=
 Calls.Name_function_global I.ok.kind hg (Calls.loadGlobal_global (by rw[I.ok.glob];exact I.mod.glob.keeps I.bk) hm h) hd
theorem mO {E:Value->Shared->Prop}{pins:List (Addr×Obj)}{s:Shared}{σ:St}{H:Hp}{x:Str}{u:Value}{pos:Pos}{Q:Value->Shared->Prop}(I:Inv X pins σ H s)(hg:Gl X x)(hm:X.mg x=none)(hv:bootBuiltins x=some u)(h:Q u s)
  (hn:x ≠ "__name__" := by decide) (hd:(x==("__debug__" : Str))=false:=by decide):wpAny (model X.prog X.w) X.A (eval (.Name x pos) X.env) Q E s:=by
 obtain⟨mb,h1,h2⟩:=I.mod.blt;exact Calls.Name_function_global I.ok.kind hg (Calls.loadGlobal_builtin (by rw[I.ok.glob];exact I.mod.glob.keeps I.bk) hm (by rw[I.ok.blt];exact h1.keeps I.bk) ((h2 x hn).trans hv) h) hd
theorem fI {x:Str}{v:V}{u:Value}{pos:Pos}(hg:Gl X x)(hm:X.mg x=some u)(r:bE v u)(hd:(x==("__debug__" : Str))=false:=by decide):PE X (.Name x pos) (tC v) :=
 fun _ _ _ H _ I h=>rJ I hg hm ⟨v,H,I,r,h⟩ hd
theorem Io {x:Str}{v:V}{u:Value}{pos:Pos}(hg:Gl X x)(hm:X.mg x=none)(hv:bootBuiltins x=some u)(r:bE v u)(hn:x ≠ "__name__" := by decide)(hd:(x==("__debug__" : Str))=false:=by decide):PE X (.Name x pos) (tC v) :=
 fun _ _ _ H _ I h=>mO I hg hm hv ⟨v,H,I,r,h⟩ hn hd
variable {a b:Expr}{ta tb:TE}{pos:Pos}
def PC (X:Cx)(op:CmpOp)(a b:Expr)(t:TE):Prop :=
 ∀ (pins:List (Addr×Obj)) (s:Shared) (σ:St) (H:Hp) (Q:VK),Inv X pins σ H s->t σ H Q ->
  wpAny (model X.prog X.w) X.A (eval a X.env) (fun v s₁=>wpAny (model X.prog X.w) X.A (eval b X.env) (fun u s₂=>wpAny (model X.prog X.w) X.A (compareOp op v u) (EP X pins σ Q) X.xe s₂) X.xe s₁) X.xe s
theorem Ly (b:Expr){op:CmpOp}(h:op≠.In)(h2:op≠.NotIn):behindInMarks op b=false:=by
 have e1:(op==CmpOp.In)=false:=by cases op <;> first | rfl | exact absurd rfl h
 have e2:(op==CmpOp.NotIn)=false:=by cases op <;> first | rfl | exact absurd rfl h2
 cases b <;> simp[behindInMarks,e1,e2]
def aAY (ta:TE):TE:=fun σ H Q=>ta σ H fun x H1=>Q (.bl (decide (x = .non))) H1
def aAA (ta:TE):TE:=fun σ H Q=>ta σ H fun x H1=>Q (.bl (!decide (x = .non))) H1
theorem bE.none_iff {x:V}{v:Value}(r:bE x v):(v==Value.none)=decide (x = .non):=by
 cases x with
 | non=>cases r;rfl
 | bl _=>cases r;rfl
 | int _=>obtain⟨t,rfl⟩:=r;rfl
 | str _=>obtain⟨t,rfl⟩:=r;rfl
 | byt _=>obtain⟨t,rfl⟩:=r;rfl
 | flt _=>obtain⟨t,rfl⟩:=r;rfl
 | ref _=>cases r;rfl
 | ty _=>cases r;rfl
theorem yO {j pos'}(ha:PE X a ta):PC X .Is a (.Constant .none j pos') (aAY ta):=by
 intro pins s σ H Q I h;refine thn (ha pins s σ H _ I h) fun v s1 ⟨x,H1,I1,r1,q1⟩=>?_
 exact Constant_none (is_none_gen ⟨.bl _,H1,I1,by rw[r1.none_iff];rfl,q1⟩)
theorem Tz {j pos'}(ha:PE X a ta):PC X .IsNot a (.Constant .none j pos') (aAA ta):=by
 intro pins s σ H Q I h;refine thn (ha pins s σ H _ I h) fun v s1 ⟨x,H1,I1,r1,q1⟩=>?_
 exact Constant_none (isnot_none_gen ⟨.bl _,H1,I1,by rw[r1.none_iff];rfl,q1⟩)
def tB (t:TE):TT:=fun σ H Q=>t σ H fun x H1=>∃ c,x = .bl c∧Q c H1
theorem kU {op:CmpOp}{t:TE}(h:PC X op a b t)(h1:behindInMarks op b=false:=by first | exact Ly _ (by decide) (by decide) | rfl):PT X (.Compare a [op] [b] pos) (tB t):=by
 intro pins s σ H Q I hw;refine wpAny_isTrue_Compare1 (thn (h pins s σ H _ I hw) fun v s1 h1=>thn h1 fun u s2 h2=>thn h2 fun c s3 ⟨x,H1,I1,r1,q1⟩=>?_) h1;obtain⟨d,rfl,q⟩:=q1;cases r1;exact wpAny_truthy_bool ⟨H1,I1,q⟩
theorem yE {e:Expr}{t:TE}(h:PE X e t)(he:∀ whole,isTrue e X.env whole=(do let v <- whole;standAt e.pos;holding [v] (truthy v)):=by intro _;rfl):PT X e (tB t):=by
 intro pins s σ H Q I hw;refine isTrue_plain (thn (h pins s σ H _ I hw) fun v s1 ⟨x,H1,I1,r1,q1⟩=>?_) (he _);obtain⟨d,rfl,q⟩:=q1;cases r1;exact wpAny_truthy_bool ⟨H1,I1,q⟩
variable {tA tB':TT}{rest:List Expr}
def aAp (t u:TT):TT:=fun σ H Q=>t σ H fun c H1=>if c=true then u σ H1 Q else Q false H1
def tOr (t u:TT):TT:=fun σ H Q=>t σ H fun c H1=>if c=true then Q true H1 else u σ H1 Q
def aAL (t:TT):TT:=fun σ H Q=>t σ H fun c H1=>Q (!c) H1
theorem nO (ha:PT X a tA):PW X (.BoolOp .And [a] pos) tA:=by
 intro wh pins s σ H Q I h;refine isTrue_and (thn (ha pins s σ H Q I h) fun c s1 e=>?_)
 cases c with
 | true=>exact isTrue_and_nil e
 | false=>exact e
theorem mS (ha:PT X a tA):PW X (.BoolOp .Or [a] pos) tA:=by
 intro wh pins s σ H Q I h;refine isTrue_or (thn (ha pins s σ H Q I h) fun c s1 e=>?_)
 cases c with
 | false=>exact isTrue_or_nil e
 | true=>exact e
theorem tT (ha:PT X a tA)(hb:PW X (.BoolOp .And (b::rest) pos) tB'):PW X (.BoolOp .And (a::b::rest) pos) (aAp tA tB'):=by
 intro wh pins s σ H Q I h;refine isTrue_and (thn (ha pins s σ H _ I h) fun c s1 ⟨H1,I1,q1⟩=>?_)
 cases c with
 | true=>exact hb wh pins s1 σ H1 Q I1 q1
 | false=>exact⟨H1,I1,q1⟩
theorem uS (ha:PT X a tA)(hb:PW X (.BoolOp .Or (b::rest) pos) tB'):PW X (.BoolOp .Or (a::b::rest) pos) (tOr tA tB'):=by
 intro wh pins s σ H Q I h;refine isTrue_or (thn (ha pins s σ H _ I h) fun c s1 ⟨H1,I1,q1⟩=>?_)
 cases c with
 | true=>exact⟨H1,I1,q1⟩
 | false=>exact hb wh pins s1 σ H1 Q I1 q1
theorem zD (ha:PT X a tA):PT X (.UnaryOp .Not a pos) (aAL tA):=by
 intro pins s σ H Q I h;exact isTrue_not (ha pins s σ H (fun c H1=>Q (!c) H1) I h)
def Yy (ta tb:TE):TE:=fun σ H Q=>ta σ H fun x H1=>∃ c,x = .bl c∧if c=true then tb σ H1 Q else Q (.bl false) H1
def aAG (ta:TE):TE:=fun σ H Q=>ta σ H fun x H1=>∃ c,x = .bl c∧Q (.bl (!c)) H1
theorem Wg {op}{t:TE}(h:PE X a t):PE X (.BoolOp op [a] pos) t:=fun pins s σ H Q I hw=>BoolOp_one (h pins s σ H Q I hw)
theorem Ny (ha:PE X a ta)(hb:PE X (.BoolOp .And (b::rest) pos) tb):PE X (.BoolOp .And (a::b::rest) pos) (Yy ta tb):=by
 intro pins s σ H Q I h;refine BoolOp_and (thn (ha pins s σ H _ I h) fun v s1 ⟨x,H1,I1,r1,q1⟩=>?_);obtain⟨c,rfl,q1⟩:=q1;cases r1;refine wpAny_truthy_bool ?_
 cases c with
 | true=>exact hb pins s1 σ H1 Q I1 q1
 | false=>exact⟨.bl false,H1,I1,rfl,q1⟩
theorem Vu (ha:PE X a ta):PE X (.UnaryOp .Not a pos) (aAG ta):=by
 intro pins s σ H Q I h;refine UnaryOp_ (thn (ha pins s σ H _ I h) fun v s1 ⟨x,H1,I1,r1,q1⟩=>?_);obtain⟨c,rfl,q1⟩:=q1;cases r1;exact not_of (wpAny_truthy_bool ⟨.bl (!c),H1,I1,rfl,q1⟩)
def tIf (t:TT)(ta tb:TE):TE:=fun σ H Q=>t σ H fun c H1=>if c=true then ta σ H1 Q else tb σ H1 Q
theorem Ch {c:Expr}(hc:PT X c tA)(ha:PE X a ta)(hb:PE X b tb):PE X (.IfExp c a b pos) (tIf tA ta tb):=by
 intro pins s σ H Q I h;refine wpAny_IfExp (thn (hc pins s σ H _ I h) fun d s1 ⟨H1,I1,q1⟩=>?_)
 cases d with
 | true=>exact ha pins s1 σ H1 Q I1 q1
 | false=>exact hb pins s1 σ H1 Q I1 q1
end
def SqL (K:ae)(H:Hp)(a:Addr)(xs:List V):Prop :=
 Rd H a (.lst xs) ∨
  ∃ (o:Obj) (its:Array Value) (n:Nat),K.lookup a=some o∧o.cls = .type "list" ∧ o.dict=none∧o.data = .seq its n∧its.size<=sizeLine∧bV xs its.toList
def SqT (K:ae)(H:Hp)(a:Addr)(xs:List V):Prop :=
 Rd H a (.tup xs) ∨
  ∃ (o:Obj) (its:Array Value) (n:Nat),K.lookup a=some o∧o.cls = .type "tuple" ∧ o.data = .seq its n∧its.size<=sizeLine∧bV xs its.toList
def aAM:Value->Option V
 | .none=>some .non
 | .bool b=>some (.bl b)
 | .int i _=>some (.int i)
 | .str x _=>some (.str x)
 | .bytes b _=>some (.byt b)
 | .float b _=>some (.flt b)
 | .ref a=>some (.ref a)
 | .type n=>some (.ty n)
 | _=>none
theorem bE.abs {x:V}{u:Value}(r:bE x u):aAM u=some x:=by
 cases x with
 | non=>cases r;rfl
 | bl _=>cases r;rfl
 | int _=>obtain⟨t,rfl⟩:=r;rfl
 | str _=>obtain⟨t,rfl⟩:=r;rfl
 | byt _=>obtain⟨t,rfl⟩:=r;rfl
 | flt _=>obtain⟨t,rfl⟩:=r;rfl
 | ref _=>cases r;rfl
 | ty _=>cases r;rfl
theorem bE.inj {x y:V}{u:Value}(r:bE x u)(q:bE y u):x=y:=a8 (r.abs.symm.trans q.abs)
theorem bV.inj:∀ {xs ys:List V} {us:List Value},bV xs us->bV ys us->xs=ys
 | _,_,_,.nil,.nil=>rfl
 | _,_,_,.cons r t,.cons r' t'=>by rw[r.inj r',bV.inj t t']
section
variable {X:Cx}{pins:List (Addr×Obj)}{σ:St}{H:Hp}{s:Shared}{a:Addr}{xs ys:List V}
theorem SqL.of {K:ae}(h:H a=some (.lst xs)):SqL K H a xs:=.inl (.inl h)
theorem SqT.of {K:ae}(h:H a=some (.tup xs)):SqT K H a xs:=.inl (.inl h)
theorem Inv.list (I:Inv X pins σ H s)(h:SqL X.K H a xs):∃ its:List Value,bV xs its∧PlainL s.heap a its.toArray∧xs.length<=sizeLine:=by
 rcases h with h | ⟨o,its,n,hk,hc,hd,hs,hz,r⟩
 ·obtain⟨z,its,n,r,e⟩:=h.ok I.hok
  exact⟨its,r,⟨_,n,e,rfl,rfl,rfl⟩,z⟩
 ·refine⟨its.toList,r,⟨o,n,I.kIn a o hk,hc,hd,by simpa using hs⟩,?_⟩
  have e:=r.length;simp only [bt] at e;omega
theorem Inv.tuple (I:Inv X pins σ H s)(h:SqT X.K H a xs):∃ its:List Value,bV xs its∧IsTup s.heap a its.toArray∧xs.length<=sizeLine:=by
 rcases h with h | ⟨o,its,n,hk,hc,hs,hz,r⟩
 ·obtain⟨z,its,r,p⟩:=h.ok I.hok
  exact⟨its,r,p,z⟩
 ·refine⟨its.toList,r,⟨o,I.kIn a o hk,hc,n,by simpa using hs⟩,?_⟩
  have e:=r.length;simp only [bt] at e;omega
theorem Inv.list_inj (I:Inv X pins σ H s)(h:SqL X.K H a xs)(h':SqL X.K H a ys):xs=ys:=by
 obtain⟨its,r,⟨o,n,e,_,_,d⟩,_⟩:=I.list h;obtain⟨its',r',⟨o',n',e',_,_,d'⟩,_⟩:=I.list h';rw[e] at e';cases e';rw[d] at d'
 injection d' with d1 _
 have:its=its':=by simpa using congrArg uz d1
 subst this;exact r.inj r'
theorem Inv.tuple_inj (I:Inv X pins σ H s)(h:SqT X.K H a xs)(h':SqT X.K H a ys):xs=ys:=by
 obtain⟨its,r,⟨o,e,_,n,d⟩,_⟩:=I.tuple h;obtain⟨its',r',⟨o',e',_,n',d'⟩,_⟩:=I.tuple h';rw[e] at e';cases e';rw[d] at d'
 injection d' with d1 _
 have:its=its':=by simpa using congrArg uz d1
 subst this;exact r.inj r'
end
abbrev Cx.wish (X:Cx)(E:Value->Shared->Prop):Cx:={ X with xe:=E }
abbrev Cx.nox (X:Cx):Cx:=X.wish fun _ _=>False
theorem Cx.Ok.wish {X:Cx}(ok:X.Ok)(E:Value->Shared->Prop):(X.wish E).Ok :=
 ⟨ok.mod,ok.kind,ok.glob,ok.blt,ok.above,ok.inj,ok.has,ok.cab,ok.hd,ok.frames,ok.stk,ok.exf,ok.bs,ok.bsz,ok.noex,ok.exfs,ok.funs,ok.frf⟩
theorem Cx.Ok.unwish {X:Cx}{E:Value->Shared->Prop}(ok:(X.wish E).Ok):X.Ok :=
 ⟨ok.mod,ok.kind,ok.glob,ok.blt,ok.above,ok.inj,ok.has,ok.cab,ok.hd,ok.frames,ok.stk,ok.exf,ok.bs,ok.bsz,ok.noex,ok.exfs,ok.funs,ok.frf⟩
section
variable {X:Cx}{pins:List (Addr×Obj)}{σ:St}{H:Hp}{s:Shared}{E:Value->Shared->Prop}
theorem Inv.wish (I:Inv X pins σ H s)(E:Value->Shared->Prop):Inv (X.wish E) pins σ H s:=⟨I.ok.wish E,I.os,I.bare,I.base,I.loc,I.cell,I.free,I.freeC,I.pin,I.hok,I.len⟩
theorem Inv.unwish (I:Inv (X.wish E) pins σ H s):Inv X pins σ H s:=⟨I.ok.unwish,I.os,I.bare,I.base,I.loc,I.cell,I.free,I.freeC,I.pin,I.hok,I.len⟩
theorem SP.unwish {D:kM}{f:Flow}{s':Shared}(h:SP (X.wish E) pins D f s'):SP X pins D f s':=by
 cases f with
 | next=>obtain⟨σ',H',I,q⟩:=h;exact⟨σ',H',I.unwish,q⟩
 | brk=>obtain⟨σ',H',I,q⟩:=h;exact⟨σ',H',I.unwish,q⟩
 | cont=>obtain⟨σ',H',I,q⟩:=h;exact⟨σ',H',I.unwish,q⟩
 | ret u=>obtain⟨v,σ',H',I,r,q⟩:=h;exact⟨v,σ',H',I.unwish,r,q⟩
theorem PSs.nox {st:List Stmt}{t:TS}(h:PSs X.nox st t):PSs X st t:=fun pins s σ H D I hw =>
 wpAny_mono (h pins s σ H D (I.wish _) hw) (fun _ _ q=>q.unwish) fun _ _ z=>False.elim z
end
section
variable {X:Cx}{st:Stmt}{rest:List Stmt}{t u:TS}{e:Expr}{te:TE}{pos:Pos}
def Yh:TS:=fun D σ H=>D.nx σ H
def aAQ (t u:TS):TS:=fun D σ H=>t { D with nx:=u D } σ H
theorem aY:PSs X [] Yh:=fun _ _ σ H _ I h=>wpAny_execs_nil ⟨σ,H,I,h⟩
theorem aB (h1:PS X st t)(h2:PSs X rest u):PSs X (st::rest) (aAQ t u):=by
 intro pins s σ H D I h;refine wpAny_execs_cons (thn (h1 pins s σ H { D with nx:=u D } I h) fun f s1 q=>?_)
 cases f with
 | next =>
  obtain⟨σ',H',I',q⟩:=q;exact h2 pins s1 σ' H' D I' q
 | ret v=>exact q
 | brk=>exact q
 | cont=>exact q
theorem aE (h1:PS X st t):PSs X [st] t:=by
 intro pins s σ H D I h;refine wpAny_execs_cons (thn (h1 pins s σ H D I h) fun f s1 q=>?_)
 cases f with
 | next=>exact wpAny_execs_nil q
 | ret v=>exact q
 | brk=>exact q
 | cont=>exact q
def We:TS:=fun D σ H=>D.bk σ H
theorem rZ:PS X (.Break pos) We:=fun _ _ σ H _ I h=>wpAny_Break ⟨σ,H,I,h⟩
theorem Inv.quiet {pins:List (Addr×Obj)}{σ:St}{H:Hp}{s:Shared}(I:Inv X pins σ H s):interactive X.env=false:=by simp[interactive,I.ok.kind]
def Zp (te:TE):TS:=fun D σ H=>te σ H fun _ H1=>D.nx σ H1
theorem fB (he:PE X e te)(hs:swapsWith e none pos.line X.env=pure false:=by rfl):PS X (.Expr e pos) (Zp te):=by
 intro pins s σ H D I h;exact wpAny_Expr_any (thn (he pins s σ H _ I h) fun v s1 ⟨x,H1,I1,r1,q1⟩=>⟨σ,H1,I1,q1⟩) I.quiet hs
def aAP (te:TE):TS:=fun D σ H=>te σ H D.rt
theorem aV (he:PE X e te):PS X (.Return (some e) pos) (aAP te):=by
 intro pins s σ H D I h;exact wpAny_Return_some (thn (he pins s σ H _ I h) fun v s1 ⟨x,H1,I1,r1,q1⟩=>⟨x,σ,H1,I1,r1,q1⟩)
def aAT (c:TT)(t u:TS):TS:=fun D σ H=>c σ H fun b H1=>if b=true then t D σ H1 else u D σ H1
theorem bS {c:Expr}{a b:List Stmt}{tc:TT}(hc:PT X c tc)(ha:PSs X a t)(hb:PSs X b u):PS X (.If c a b pos) (aAT tc t u):=by
 intro pins s σ H D I h;refine wpAny_If (thn (hc pins s σ H _ I h) fun d s1 ⟨H1,I1,q1⟩=>?_)
 cases d with
 | true=>exact ha pins s1 σ H1 D I1 q1
 | false=>exact hb pins s1 σ H1 D I1 q1
end
abbrev TG:=V->St->Hp->(St->Hp->Prop)->Prop
abbrev TGs:=List V->St->Hp->(St->Hp->Prop)->Prop
def PG (X:Cx)(target:Expr)(t:TG):Prop :=
 ∀ (pins:List (Addr×Obj)) (s:Shared) (σ:St) (H:Hp) (v:V) (u:Value) (Q:St->Hp->Prop),Inv X pins σ H s->bE v u->t v σ H Q ->
  wpAny (model X.prog X.w) X.A (assign target X.env u) (fun _ s'=>∃ σ' H',Inv X pins σ' H' s'∧Q σ' H') X.xe s
def PGs (X:Cx)(ts:List Expr)(t:TGs):Prop :=
 ∀ (pins:List (Addr×Obj)) (s:Shared) (σ:St) (H:Hp) (vs:List V) (us:List Value) (Q:St->Hp->Prop),Inv X pins σ H s->bV vs us->t vs σ H Q ->
  wpAny (model X.prog X.w) X.A (assignInOrder ((assignEach ts X.env).map (·.2)) us) (fun _ s'=>∃ σ' H',Inv X pins σ' H' s'∧Q σ' H') X.xe s
abbrev aAj:=V->V->V->Hp->(Hp->Prop)->Prop
def aAe (X:Cx)(t:aAj):Prop :=
 ∀ (pins:List (Addr×Obj)) (s:Shared) (σ:St) (H:Hp) (o i v:V) (ov iv u:Value) (Q:Hp->Prop),Inv X pins σ H s->bE o ov->bE i iv->bE v u->t o i v H Q ->
  wpAny (model X.prog X.w) X.A (setItem ov iv u) (fun _ s'=>∃ H',Inv X pins σ H' s'∧Q H') X.xe s
section
variable {X:Cx}{pos:Pos}
def xE (i:Nat):TG:=fun v σ H Q=>Q (σ.set i (some v)) H
theorem bK {i:Nat}{x:Str}(hN:X.N.Nodup)(hi:X.N[i]?=some x)(hx:Loc X.env.scope x)(hf:X.fn x=true∨X.env.scope.names.lookup x=some .local:=by first | exact .inl rfl | exact .inr rfl | assumption):PG X (.Name x pos) (xE i):=by
 intro pins s σ H v u Q I r h;exact wpAny_assign_Name (tR I hN hi hx r (fun s' I'=>⟨_,H,I',h⟩) hf)
def aAO:TGs:=fun vs σ H Q=>vs=[]∧Q σ H
def Yx (t:TG)(u:TGs):TGs:=fun vs σ H Q=>∃ v r,vs=v::r∧t v σ H fun σ' H'=>u r σ' H' Q
theorem zA:PGs X [] aAO:=by
 intro pins s σ H vs us Q I r h;obtain⟨e,h⟩:=h;subst e;cases r;exact assignInOrder_nil ⟨σ,H,I,h⟩
theorem iS {e:Expr}{es:List Expr}{t:TG}{u:TGs}(h1:PG X e t)(h2:PGs X es u)
  (hs:(assignEach (e::es) X.env).map (·.2)=assign e X.env::(assignEach es X.env).map (·.2):=by rfl):PGs X (e::es) (Yx t u):=by
 intro pins s σ H vs us Q I r h;obtain⟨v,vr,e1,h⟩:=h;subst e1
 cases r with
 | cons r rr =>
  rw[hs];refine assignInOrder_cons (thn (h1 pins s σ H _ _ _ I r h) fun _ s1 ⟨σ1,H1,I1,q1⟩=>?_);exact h2 pins s1 σ1 H1 _ _ Q I1 rr q1
def aAN (K:ae)(n:Nat)(t:TGs):TG:=fun v σ H Q=>∃ a xs,v = .ref a∧SqT K H a xs∧xs.length=n∧t xs σ H Q
theorem Cu {es:List Expr}{k:Nat}{t:TGs}{n:Nat}(hc:X.calm=true)(h:PGs X es t)
  (hn:(assignEach es X.env).length=n:=by rfl) (hst:(assignEach es X.env).findIdx? (·.1)=none:=by rfl):PG X (.Tuple es k pos) (aAN X.K n t):=by
 intro pins s σ H v u Q I r hw;obtain⟨a,xs,e1,hq,hl,hw⟩:=hw;subst e1;cases r;obtain⟨its,rv,ht,hz⟩:=I.tuple hq;refine assign_Tuple_tuple (I.ok.hd hc) ht (by simp[hn,<- hl,rv.length]) hst fun h' hx=>?_
 have I1:Inv X pins σ H { s with heap:=h' }:=I.kept (t':=s.toks) fun b o e=>hx b o (bb (Heap.lt_size e)) e
 exact h pins _ σ H xs _ Q I1 (by simpa using rv) hw
def Mc (te:TE)(g:TG):TS:=fun D σ H=>te σ H fun x H1=>g x σ H1 D.nx
theorem Wc {tg e:Expr}{te:TE}{g:TG}(he:PE X e te)(hg:PG X tg g)(hs:swapsWithSole [tg] e pos.line X.env=pure false:=by rfl)(hw:swappedStores [tg] e X.env=pure none:=by rfl)
  (h1:(assignEach [tg] X.env).map (·.2)=[assign tg X.env]:=by rfl):PS X (.Assign [tg] e pos) (Mc te g):=by
 intro pins s σ H D I h;refine wpAny_Assign_stores (thn (he pins s σ H _ I h) fun v s1 ⟨x,H1,I1,r1,q1⟩=>?_) hs hw;rw[h1];exact thn (hg pins s1 σ H1 x v _ I1 r1 q1) fun _ s2 q=>q
theorem aI {i:Nat}{x:Str}{e:Expr}{te:TE}{pos':Pos}(hN:X.N.Nodup)(hi:X.N[i]?=some x)(hx:Loc X.env.scope x)(he:PE X e te)(hs:swapsWith e (some (.Name x pos')) pos.line X.env=pure false:=by rfl)(hf:X.fn x=true∨X.env.scope.names.lookup x=some .local:=by first | exact .inl rfl | exact .inr rfl | assumption) :
  PS X (.Assign [.Name x pos'] e pos) (Mc te (xE i)):=by
 intro pins s σ H D I h;refine wpAny_Assign_Name (thn (he pins s σ H _ I h) fun v s1 ⟨y,H1,I1,r1,q1⟩=>?_) hs;exact tR I1 hN hi hx r1 (fun s2 I2=>⟨_,H1,I2,q1⟩) hf
def Wz (c:TT)(tb:TS):TS:=fun D σ H=>∃ W:Nat->St->Hp->Prop,(∃ m,W m σ H)∧∀ m σ H,W m σ H ->
 c σ H fun b H1=>if b=true then ∃ N:St->Hp->Prop,(∀ σ' H',N σ' H'->∃ m',m'<m∧W m' σ' H')∧tb { D with nx:=N,ct:=N,bk:=D.nx } σ H1 else D.nx σ H1
theorem iX {c:Expr}{body:List Stmt}{tc:TT}{tb:TS}(hp:PassesOwn (model X.prog X.w) X.A X.env X.xe)(hc:PT X c tc)(hb:PSs X body tb):PS X (.While c body [] pos) (Wz tc tb):=by
 intro pins s σ H D I h;obtain⟨W,⟨m0,w0⟩,turn⟩:=h;refine wpAny_While (codeAny_whileLoop (fun n s'=>∃ σ' H',Inv X pins σ' H' s'∧W n σ' H') ?_ m0 ⟨σ,H,I,w0⟩);rintro n s1 ⟨σ1,H1,I1,w1⟩;refine wpAny_passesOwn hp (thn (hc pins s1 σ1 H1 _ I1 (turn n σ1 H1 w1)) fun b s2 ⟨H2,I2,q2⟩=>?_)
 cases b with
 | true =>
  obtain⟨N,hN,q2⟩:=q2;rw[if_pos rfl];refine wpAny_passesOwn hp (thn (hb pins s2 σ1 H2 _ I2 q2) fun f s3 q3=>?_)
  cases f with
  | next =>
   obtain⟨σ3,H3,I3,n3⟩:=q3;obtain⟨m',hm,w3⟩:=hN σ3 H3 n3;exact⟨m',hm,σ3,H3,I3,w3⟩
  | cont =>
   obtain⟨σ3,H3,I3,n3⟩:=q3;obtain⟨m',hm,w3⟩:=hN σ3 H3 n3;exact⟨m',hm,σ3,H3,I3,w3⟩
  | brk=>exact q3
  | ret v=>exact q3
 | false =>
  rw[if_neg am];exact wpAny_execs_nil ⟨σ1,H2,I2,q2⟩
end
structure It where
 go:Nat->Hp->Prop
 yld:Nat->Hp->V->Hp->Prop
 stop:Nat->Hp->Prop
def mR (X:Cx)(pins:List (Addr×Obj))(H:Hp)(b:Addr):Prop :=
 H b=none∧b≠X.env.locals∧b∉X.fs∧(b∈X.ex∨X.s₀.heap.objs.size<=b)∧(∀ x c,X.env.cells.lookup x=some c->c≠b)∧∀ p∈X.pn++pins,p.1≠b
theorem Inv.fpOk {X:Cx}{pins:List (Addr×Obj)}{σ:St}{H H':Hp}{s:Shared}{b:Addr}(I:Inv X pins σ H s)(hb:s.heap.objs.size<=b)(hn:H' b=none):mR X pins H' b:=by
 refine⟨hn,g0 (bx I.lt hb),I.nofs hb,.inr (av I.sz hb),fun x c e z=>?_,fun p hp z=>?_⟩
 ·obtain⟨v,q⟩:=I.cell x c e
  exact absurd (bx q.lt (by rw[z];exact hb)) (ej _)
 ·exact absurd (bx (Heap.lt_size (I.pin p hp).1) (by rw[z];exact hb)) (ej _)
structure vB (P:Program)(w:World)(K:ae)(tg:Expr)(J:It)(fp:List Addr)(it:Addr)(tn:Nat->Heap->Prop):Prop where
 mem:it∈fp
 obj:∀ i h,tn i h->∀ b∈fp,∃ o,h.get? b=some o∧∀ v,o.data≠.cell v
 keep:∀ i h h',tn i h->(∀ b∈fp,∀ o,h.get? b=some o->h'.get? b=some o)->tn i h'
 item:∀ (X:Cx),X.prog=P->X.w=w->X.K=K->X.calm=true->∀ (i:Nat) (pins:List (Addr×Obj)) (s:Shared) (σ:St) (H:Hp) (E:Value->Shared->Prop),Inv X pins σ H s->(∀ b∈fp,mR X pins H b)->tn i s.heap->J.go i H ->
  wpAny (model P w) X.A (pyNext (.ref it)) (fun r s1=>∃ u,r=some u ∧
   wpAny (model P w) X.A (letOwnedTupleGo tg (.ref it) u) (fun _ s2=>∃ x H',Inv X pins σ H' s2∧bE x u∧J.yld i H x H'∧tn (i+1) s2.heap∧∀ b∈fp,H' b=none) E s1) E s
 done:∀ (X:Cx),X.prog=P->X.w=w->X.K=K->X.calm=true->∀ (i:Nat) (pins:List (Addr×Obj)) (s:Shared) (σ:St) (H:Hp) (E:Value->Shared->Prop),Inv X pins σ H s->(∀ b∈fp,mR X pins H b)->tn i s.heap->J.stop i H ->
  wpAny (model P w) X.A (pyNext (.ref it)) (fun r s1=>r=none∧Inv X pins σ H s1) E s
 self:∀ (A:Around) (i:Nat) (s:Shared) (Q:Value->Shared->Prop) (E:Value->Shared->Prop),tn i s.heap->Q (.ref it) s->wpAny (model P w) A (pyIter (.ref it)) Q E s
abbrev TI:=St->Hp->(It->Hp->Prop)->Prop
def PIE (X:Cx)(pins:List (Addr×Obj))(σ:St)(tg:Expr)(R:It->Hp->Prop)(itv:Value)(s2:Shared):Prop :=
 ∃ (it:Addr) (fp:List Addr) (tn:Nat->Heap->Prop) (J:It) (H':Hp),itv = .ref it∧Inv X pins σ H' s2∧vB X.prog X.w X.K tg J fp it tn∧tn 0 s2.heap∧(∀ b∈fp,mR X pins H' b)∧R J H'
def PI (X:Cx)(tg iter:Expr)(wi:TI):Prop :=
 ∀ (pins:List (Addr×Obj)) (s:Shared) (σ:St) (H:Hp) (R:It->Hp->Prop),Inv X pins σ H s->wi σ H R ->
  wpAny (model X.prog X.w) X.A (eval iter X.env) (fun v s1=>wpAny (model X.prog X.w) X.A (pyIter v) (PIE X pins σ tg R) X.xe s1) X.xe s
theorem Fy {M : Model} {A : Around} {E : Value → Shared → Prop} {s : Shared} {tg : Expr} {it : Addr} {u : Value} {o : Obj} {n : String} {vs : Array Value} {Q : Unit → Shared → Prop} (ho : s.heap.get? it = some o) (hc : o.cls = .type n) (hd : o.data = .fields vs)
    (hn : ["enumerate", "zip", "dict_itemiterator", "dict_reverseitemiterator", "odict_iterator", "itertools.zip_longest", "itertools.pairwise"].contains n = false) (hQ : Q () s) : wpAny M A (letOwnedTupleGo tg (.ref it) u) Q E s := by
  unfold letOwnedTupleGo;cases tg <;> first
    | exact wpAny_pure hQ
    | (cases u <;> first
        | exact wpAny_pure hQ
        | (refine wpAny_bind (wpAny_load ho ?_)
           rw[hc, hd];show wpAny M A (if (["enumerate", "zip", "dict_itemiterator", "dict_reverseitemiterator", "odict_iterator", "itertools.zip_longest", "itertools.pairwise"].contains n && vs[0]? == some (rawInt _)) = true then _ else _) Q E s
           rw[if_neg (by intro h; rw[hn, pw] at h; cases h)];exact wpAny_pure hQ))
def Itl (K:ae)(a:Addr):It :=
 ⟨fun i H=>∃ xs x,SqL K H a xs∧xs[i]?=some x,fun i H x H'=>H'=H∧∀ xs,SqL K H a xs->xs[i]?=some x,fun i H=>∃ xs,SqL K H a xs∧xs.length<=i⟩
def Itt (K:ae)(a:Addr):It :=
 ⟨fun i H=>∃ xs x,SqT K H a xs∧xs[i]?=some x,fun i H x H'=>H'=H∧∀ xs,SqT K H a xs->xs[i]?=some x,fun i H=>∃ xs,SqT K H a xs∧xs.length<=i⟩
def Itr (lo:Int)(n:Nat):It:=⟨fun i _=>i<n,fun i H x H'=>H'=H∧x = .int (lo+i),fun i _=>n<=i⟩
theorem wD {P:Program}{w:World}{K:ae}{tg:Expr}(a it:Addr):vB P w K tg (Itl K a) [it] it (fun i h=>h.IsListIter it a i) where
 mem:=by simp
 obj:=fun i h st b hb=>by
  have e:b=it:=by simpa using hb
  subst e;obtain⟨o,e,c,d⟩:=st;exact⟨o,e,fun v z=>by rw[d] at z;cases z⟩
 keep:=fun i h h' st k=>st.at fun o e=>k it (by simp) o e
 item:=by
  intro X hP hw hK hc i pins s σ H E I hf st hg;subst hP hw hK;obtain⟨xs,x,hq,hx⟩:=hg;obtain⟨its,rv,p,hz⟩:=I.list hq;obtain⟨u,hu,ru⟩:=rv.get hx;obtain⟨f0,f1,f2,f3,f4,f5⟩:=hf it (by simp);refine wpAny_pyNext_list_item st p.isList (x:=u) (by simpa using hu) fun h' st' sb=>?_
  have I1:Inv X pins σ H { s with heap:=h' }:=I.turned (t':=s.toks) (fun b o hb e=>(sb.2 b hb).trans e) f0 f1 f3 f4 f5;obtain⟨o,e,c,d⟩:=id st';exact⟨u,rfl,Fy (s:={ s with heap:=h' }) e c d (by decide) ⟨x,H,I1,ru,⟨rfl,fun ys hy=>by rw[I.list_inj hy hq];exact hx⟩,st',fun b hb=>(hf b hb).1⟩⟩
 done:=by
  intro X hP hw hK hc i pins s σ H E I hf st hg;subst hP hw hK;obtain⟨xs,hq,hx⟩:=hg;obtain⟨its,rv,p,hz⟩:=I.list hq;obtain⟨f0,f1,f2,f3,f4,f5⟩:=hf it (by simp);have hl:=rv.length;exact wpAny_pyNext_list_end (I.ok.hd hc) st p.isList (by simp;omega) fun h' eb=>⟨rfl,I.turned (t':=s.toks) (fun b o hb e=>eb b o hb e) f0 f1 f3 f4 f5⟩
 self:=fun _ _ _ _ _ st h=>wpAny_pyIter_listiter st h
theorem tG {P:Program}{w:World}{K:ae}{tg:Expr}(a it:Addr):vB P w K tg (Itt K a) [it] it (fun i h=>h.IsTupleIter it a i) where
 mem:=by simp
 obj:=fun i h st b hb=>by
  have e:b=it:=by simpa using hb
  subst e;obtain⟨o,e,c,d⟩:=st;exact⟨o,e,fun v z=>by rw[d] at z;cases z⟩
 keep:=fun i h h' st k=>st.at fun o e=>k it (by simp) o e
 item:=by
  intro X hP hw hK hc i pins s σ H E I hf st hg;subst hP hw hK;obtain⟨xs,x,hq,hx⟩:=hg;obtain⟨its,rv,p,hz⟩:=I.tuple hq;obtain⟨u,hu,ru⟩:=rv.get hx;obtain⟨f0,f1,f2,f3,f4,f5⟩:=hf it (by simp);refine wpAny_pyNext_tuple_item st (show s.heap.IsTuple a its.toArray from p) (x:=u) (by simpa using hu) fun h' st' sb=>?_
  have I1:Inv X pins σ H { s with heap:=h' }:=I.turned (t':=s.toks) (fun b o hb e=>(sb.2 b hb).trans e) f0 f1 f3 f4 f5;obtain⟨o,e,c,d⟩:=id st';exact⟨u,rfl,Fy (s:={ s with heap:=h' }) e c d (by decide) ⟨x,H,I1,ru,⟨rfl,fun ys hy=>by rw[I.tuple_inj hy hq];exact hx⟩,st',fun b hb=>(hf b hb).1⟩⟩
 done:=by
  intro X hP hw hK hc i pins s σ H E I hf st hg;subst hP hw hK;obtain⟨xs,hq,hx⟩:=hg;obtain⟨its,rv,p,hz⟩:=I.tuple hq;obtain⟨f0,f1,f2,f3,f4,f5⟩:=hf it (by simp);have hl:=rv.length;exact wpAny_pyNext_tuple_end (I.ok.hd hc) st (show s.heap.IsTuple a its.toArray from p) (by simp;omega) fun h' eb=>⟨rfl,I.turned (t':=s.toks) (fun b o hb e=>eb b o hb e) f0 f1 f3 f4 f5⟩
 self:=fun _ _ _ _ _ st h=>wpAny_pyIter_tupleiter st h
theorem Ea {P:Program}{w:World}{K:ae}{tg:Expr}(it:Addr)(lo:Int)(n:Nat):vB P w K tg (Itr lo n) [it] it (fun i h=>IsRangeIter h it (lo+(i:Nat)*1) ((n:Int)-(i:Nat)) 1) where
 mem:=by simp
 obj:=fun i h st b hb=>by
  have e:b=it:=by simpa using hb
  subst e;exact⟨_,st,fun v z=>by
   have z':Data.fields _=Data.cell v:=z;cases z'⟩
 keep:=fun i h h' st k=>k it (by simp) _ st
 item:=by
  intro X hP hw hK hc i pins s σ H E I hf st hg;subst hP hw hK;obtain⟨f0,f1,f2,f3,f4,f5⟩:=hf it (by simp);have W:=Walks.range (prog:=X.prog) (w:=X.w) (I.ok.hd hc) it lo 1 n;refine W.item i s _ _ hg st fun v h' tk hv st' kk=>?_
  obtain⟨t,rfl⟩:=hv;have I1:Inv X pins σ H { s with heap:=h',toks:=tk }:=I.turned (fun b o hb e=>kk b o (by simpa using hb) e) f0 f1 f3 f4 f5;refine⟨_,rfl,Fy (s:={ s with heap:=h',toks:=tk }) (n := "range_iterator") st' rfl rfl (by decide) ⟨.int (lo+i),H,I1,⟨t,?_⟩,⟨rfl,rfl⟩,st',fun b hb=>(hf b hb).1⟩⟩
  rw[lx]
 done:=by
  intro X hP hw hK hc i pins s σ H E I hf st hg;subst hP hw hK;obtain⟨f0,f1,f2,f3,f4,f5⟩:=hf it (by simp);exact wpAny_pyNext_range_end (I.ok.hd hc) st (by have:n<=i:=hg;omega) fun h' eb=>⟨rfl,I.turned (t':=s.toks) (fun b o hb e=>eb b o hb e) f0 f1 f3 f4 f5⟩
 self:=fun _ _ _ _ _ st h=>wpAny_pyIter_rangeiter st h
section
variable {X:Cx}{tg:Expr}
def Va (K:ae)(tl:TE):TI:=fun σ H R=>tl σ H fun x H1=>∃ a,x = .ref a∧(∃ xs,SqL K H1 a xs)∧R (Itl K a) H1
def aAq (K:ae)(tl:TE):TI:=fun σ H R=>tl σ H fun x H1=>∃ a,x = .ref a∧(∃ xs,SqT K H1 a xs)∧R (Itt K a) H1
theorem bH {l:Expr}{tl:TE}(hl:PE X l tl):PI X tg l (Va X.K tl):=by
 intro pins s σ H R I h;refine thn (hl pins s σ H _ I h) fun v s1 ⟨x,H1,I1,r1,q1⟩=>?_
 obtain⟨a,e,⟨xs,hq⟩,q⟩:=q1;subst e;cases r1;obtain⟨its,rv,p,hz⟩:=I1.list hq;refine wpAny_pyIter_list p.isList ?_;refine⟨s1.heap.objs.size,[s1.heap.objs.size],_,_,H1,rfl,I1.kept (t':=s1.toks) fun b o e=>Heap.get?_push_of_some _ e,wD a _,⟨_,Heap.get?_push_size _ rfl,rfl,rfl⟩,fun b hb=>?_,q⟩;have e:b=s1.heap.objs.size:=by simpa using hb
 subst e;exact I1.fpOk (af _) (I1.hok.fresh (af _))
theorem oM {l:Expr}{tl:TE}(hl:PE X l tl):PI X tg l (aAq X.K tl):=by
 intro pins s σ H R I h;refine thn (hl pins s σ H _ I h) fun v s1 ⟨x,H1,I1,r1,q1⟩=>?_
 obtain⟨a,e,⟨xs,hq⟩,q⟩:=q1;subst e;cases r1;obtain⟨its,rv,p,hz⟩:=I1.tuple hq;refine wpAny_pyIter_tuple (show s1.heap.IsTuple a its.toArray from p) ?_;refine⟨s1.heap.objs.size,[s1.heap.objs.size],_,_,H1,rfl,I1.kept (t':=s1.toks) fun b o e=>Heap.get?_push_of_some _ e,tG a _,⟨_,Heap.get?_push_size _ rfl,rfl,rfl⟩,fun b hb=>?_,q⟩;have e:b=s1.heap.objs.size:=by simpa using hb
 subst e;exact I1.fpOk (af _) (I1.hok.fresh (af _))
theorem Cm {pins:List (Addr×Obj)}{σ:St}{H:Hp}{s:Shared}{R:It->Hp->Prop}{E:Value->Shared->Prop}{lo hi:Int}{t u v:Tok}{tk:Nat}(I:Inv X pins σ H s)(h1 : -(2 ^ 62)<=lo)(h2:lo<2 ^ 62)(h3 : -(2 ^ 62)<=hi)(h4:hi<2 ^ 62)
  (q:R (Itr lo (hi-lo).toNat) H):wpAny (model X.prog X.w) X.A (pyIter (.ref s.heap.objs.size)) (PIE X pins σ tg R) E { s with heap:=s.heap.push { cls:=.type "range",data:=.fields #[.int lo t,.int hi u,.int 1 v] },toks:=tk }:=by
 refine wpAny_pyIter_range (IsRange.new ..) (small_one h1 h2 h3 h4) ?_;have I1:Inv X pins σ H { s with heap:=s.heap.push { cls:=.type "range",data:=.fields #[.int lo t,.int hi u,.int 1 v] },toks:=tk }:=I.kept fun b o e=>Heap.get?_push_of_some _ e
 refine⟨(s.heap.push { cls:=.type "range",data:=.fields #[.int lo t,.int hi u,.int 1 v] }).objs.size,[(s.heap.push { cls:=.type "range",data:=.fields #[.int lo t,.int hi u,.int 1 v] }).objs.size],_,_,H,rfl,
  I1.kept (t':=tk) fun b o e=>Heap.get?_push_of_some _ e,Ea _ lo (hi-lo).toNat,?_,fun b hb=>?_,q⟩
 ·have e1:lo+((0:Nat):Int)*1=lo:=by simp
  have e2:(((hi-lo).toNat:Nat):Int)-((0:Nat):Int)=Builtin.Range.rangeSize lo hi 1:=by rw[rangeSize_one];split <;> omega
  show IsRangeIter _ _ (lo+((0:Nat):Int)*1) ((((hi-lo).toNat:Nat):Int)-((0:Nat):Int)) 1;rw[e1,e2];exact Heap.get?_push_size _ rfl
 ·have e:b=(s.heap.push { cls:=.type "range",data:=.fields #[.int lo t,.int hi u,.int 1 v] }).objs.size:=by simpa using hb
  subst e;exact I1.fpOk (af _) (I1.hok.fresh (af _))
def Yw (ta:TA):TI:=fun σ H R=>ta σ H fun vs H1=>∃ j:Int,vs=[.int j]∧-(2 ^ 62)<=j∧j<2 ^ 62∧R (Itr 0 j.toNat) H1
def Yi (ta:TA):TI:=fun σ H R=>ta σ H fun vs H1=>∃ i j:Int,vs=[.int i,.int j]∧(-(2 ^ 62)<=i∧i<2 ^ 62∧-(2 ^ 62)<=j∧j<2 ^ 62)∧R (Itr i (j-i).toNat) H1
theorem gP {a:Expr}{ta:TA}{p pos:Pos}(hg:Gl X "range")(hm:X.mg "range" = none)(ha:PA X [a] ta)(hs:starEach [a] X.env=[(false,eval a X.env)]:=by rfl):PI X tg (.Call (.Name "range" p) [a] [] pos) (Yw ta):=by
 intro pins s σ H R I h;refine Call_ (mO I hg hm boot_range (ga (thn (ha pos pins s σ H _ I h) fun us s1 ⟨vs,H1,I1,r1,q1⟩=>?_) hs rfl));obtain⟨j,e,q1,q2,q⟩:=q1;subst e
 cases r1 with
 | cons r rr =>
  cases rr;obtain⟨t,rfl⟩:=r;exact call_range_1 (Cm I1 (by omega) (by omega) q1 q2 (by simpa using q))
theorem Je {a b:Expr}{ta:TA}{p pos:Pos}(hg:Gl X "range")(hm:X.mg "range" = none)(ha:PA X [a,b] ta)(hs:starEach [a,b] X.env=[(false,eval a X.env),(false,eval b X.env)]:=by rfl)(hs2:starEach [b] X.env=[(false,eval b X.env)]:=by rfl) :
  PI X tg (.Call (.Name "range" p) [a,b] [] pos) (Yi ta):=by
 intro pins s σ H R I h;refine Call_ (mO I hg hm boot_range (ga (thn (ha pos pins s σ H _ I h) fun us s1 ⟨vs,H1,I1,r1,q1⟩=>?_) (by rw[hs,hs2]) (by rw[hs2];rfl)));obtain⟨i,j,e,⟨q1,q2,q3,q4⟩,q⟩:=q1;subst e
 cases r1 with
 | cons r rr =>
  cases rr with
  | cons r' rr =>
   cases rr;obtain⟨t,rfl⟩:=r;obtain⟨t',rfl⟩:=r';exact call_range_2 (Cm I1 q1 q2 q3 q4 q)
def aAS (wi:TI)(g:TG)(tb:TS):TS:=fun D σ H=>wi σ H fun J H1=>∃ W:Nat->Nat->St->Hp->Prop,(∃ m,W 0 m σ H1)∧∀ i m σ H,W i m σ H ->
 (J.stop i H∧D.nx σ H)∨(J.go i H∧∃ N:St->Hp->Prop,(∀ σ' H',N σ' H'->∃ m',m'<m∧W (i+1) m' σ' H')∧∀ x H',J.yld i H x H'->g x σ H' fun σ2 H2=>tb { D with nx:=N,ct:=N,bk:=D.nx } σ2 H2)
def mW (fp:List Addr)(h:Heap):List (Addr×Obj):=fp.filterMap fun b=>(h.get? b).map fun o=>(b,o)
theorem eB {fp:List Addr}{h:Heap}{b:Addr}{o:Obj}(hb:b∈fp)(e:h.get? b=some o):(b,o)∈mW fp h:=mn.mpr ⟨b,hb,by rw[e];rfl⟩
theorem Kn {fp:List Addr}{h:Heap}{p:Addr×Obj}(hp:p∈mW fp h):p.1∈fp∧h.get? p.1=some p.2:=by
 obtain⟨b,hb,e⟩:=mn.mp hp
 cases q:h.get? b with
 | none=>rw[q] at e;cases e
 | some o =>
  rw[q] at e;have e':(b,o)=p:=a8 e;subst e';exact⟨hb,q⟩
theorem Inv.pinned {pins:List (Addr×Obj)}{σ:St}{H:Hp}{s:Shared}{fp:List Addr}(I:Inv X pins σ H s)(hf:∀ b∈fp,mR X pins H b)(ho:∀ b∈fp,∃ o,s.heap.get? b=some o∧∀ v,o.data≠.cell v):Inv X (pins++mW fp s.heap) σ H s :=
 I.pins_of fun p hp=>(bu.mp hp).elim (fun z=>I.pin p (br _ z)) fun z=>by
  obtain⟨hb,e⟩:=Kn z;obtain⟨f0,f1,f2,_⟩:=hf p.1 hb;obtain⟨o,e',d⟩:=ho p.1 hb;rw[e] at e';cases e';exact⟨e,f0,f1,f2,d⟩
theorem Inv.unpinned {pins pl:List (Addr×Obj)}{σ:St}{H:Hp}{s:Shared}(I:Inv X (pins++pl) σ H s):Inv X pins σ H s:=I.pins_of fun p hp=>I.pin p (br _ (im _ hp))
theorem cM {iter:Expr}{body:List Stmt}{wi:TI}{g:TG}{tb:TS}{pos:Pos}(hp:PassesOwn (model X.prog X.w) X.A X.env X.xe)(hc:X.calm=true)(hi:PI X tg iter wi)(hg:PG X tg g)(hb:PSs X body tb)
  (hs:∀ x,foldedSetIterable iter X.env x=pure x:=by intro _;rfl):PS X (.For tg iter body [] pos) (aAS wi g tb):=by
 intro pins s σ H D I h;refine wpAny_For (thn (hi pins s σ H _ I h) fun v s1 h1=>thn h1 fun itv s2 h2=>?_) hs;obtain⟨it,fp,tn,J,H2,e,I2,T,st2,f2,W,⟨m0,w0⟩,turn⟩:=h2;subst e;have stat:∀ {H':Hp},(∀ b∈fp,H' b=none)->∀ b∈fp,mR X pins H' b:=fun hn b hb=>⟨hn b hb,(f2 b hb).2⟩
 refine codeAny_forLoop_any (fun n s'=>∃ i σ' H',Inv X pins σ' H' s'∧tn i s'.heap∧(∀ b∈fp,H' b=none)∧W i n σ' H') ?_ m0 ⟨0,σ,H2,I2,st2,fun b hb=>(f2 b hb).1,w0⟩;rintro n s3 ⟨i,σ3,H3,I3,st3,fr3,w3⟩;rcases turn i n σ3 H3 w3 with ⟨stop,qn⟩ | ⟨go,N,hN,step⟩
 ·refine wpAny_passesOwn hp (thn (T.done X rfl rfl rfl hc i pins s3 σ3 H3 X.xe I3 (stat fr3) st3 stop) fun r s4 ⟨hr,I4⟩=>?_)
  subst hr;exact wpAny_execs_nil ⟨σ3,H3,I4,qn⟩
 ·refine wpAny_passesOwn hp (thn (T.item X rfl rfl rfl hc i pins s3 σ3 H3 X.xe I3 (stat fr3) st3 go) fun r s4 ⟨u,hr,h4⟩=>?_)
  subst hr;refine wpAny_passesOwn hp (thn h4 fun _ s5 ⟨x,H5,I5,r5,y5,st5,fr5⟩=>?_);have I5':=I5.pinned (stat fr5) (T.obj _ _ st5);refine wpAny_passesOwn hp (thn (hg _ s5 σ3 H5 x u _ I5' r5 (step x H5 y5)) fun _ s6 ⟨σ6,H6,I6,q6⟩=>?_);refine wpAny_passesOwn hp (thn (hb _ s6 σ6 H6 _ I6 q6) fun f s7 q7=>?_);have again:∀ {σ7:St} {H7:Hp},Inv X (pins++mW fp s5.heap) σ7 H7 s7->N σ7 H7->∃ m,m<n∧∃ i σ' H',Inv X pins σ' H' s7∧tn i s7.heap∧(∀ b∈fp,H' b=none)∧W i m σ' H':=fun {σ7 H7} I7 n7=>by
   obtain⟨m',hm,w7⟩:=hN σ7 H7 n7;refine⟨m',hm,i+1,σ7,H7,I7.unpinned,T.keep _ _ _ st5 fun b hb o e=>(I7.pin (b,o) (br _ (br _ (eB hb e)))).1,fun b hb=>?_,w7⟩;obtain⟨o,e,d⟩:=T.obj _ _ st5 b hb;exact (I7.pin (b,o) (br _ (br _ (eB hb e)))).2.1
  cases f with
  | next=>obtain⟨σ7,H7,I7,n7⟩:=q7;exact again I7 n7
  | cont=>obtain⟨σ7,H7,I7,n7⟩:=q7;exact again I7 n7
  | brk=>obtain⟨σ7,H7,I7,q7⟩:=q7;exact⟨σ7,H7,I7.unpinned,q7⟩
  | ret v=>obtain⟨x7,σ7,H7,I7,r7,q7⟩:=q7;exact⟨x7,σ7,H7,I7.unpinned,r7,q7⟩
end
theorem dA {K:ae}{a:Addr}{xs:List V}{g:TG}{tb:TS}{D:kM}{σ:St}{H:Hp}(Pv:Nat->St->Hp->Prop)(h0:Pv 0 σ H)(hl:∀ i σ H,i<=xs.length->Pv i σ H->SqL K H a xs)
  (hs:∀ i x σ H,xs[i]?=some x->Pv i σ H->g x σ H fun σ2 H2=>tb { D with nx:=Pv (i+1),ct:=Pv (i+1),bk:=D.nx } σ2 H2) (hd:∀ σ H,Pv xs.length σ H->D.nx σ H) :
  ∃ W:Nat->Nat->St->Hp->Prop,(∃ m,W 0 m σ H)∧∀ i m σ H,W i m σ H ->
   ((Itl K a).stop i H∧D.nx σ H)∨((Itl K a).go i H∧∃ N:St->Hp->Prop,(∀ σ' H',N σ' H'->∃ m',m'<m∧W (i+1) m' σ' H')∧∀ x H',(Itl K a).yld i H x H'->g x σ H' fun σ2 H2=>tb { D with nx:=N,ct:=N,bk:=D.nx } σ2 H2):=by
 refine⟨fun i m σ H=>m=xs.length-i∧i<=xs.length∧Pv i σ H,⟨xs.length,by simp,b6 _,h0⟩,?_⟩;rintro i m σ H ⟨rfl,hi,p⟩;have q:=hl i σ H hi p;by_cases hlt:i<xs.length
 ·refine .inr ⟨⟨xs,xs[i],q,by simp[hlt]⟩,Pv (i+1),fun σ' H' p'=>⟨xs.length-(i+1),by omega,rfl,hlt,p'⟩,fun x H' y=>?_⟩
  obtain⟨e,y⟩:=y;subst e;exact hs i x σ _ (y xs q) p
 ·have e:i=xs.length:=by omega
  subst e;exact .inl ⟨⟨xs,q,af _⟩,hd σ H p⟩
theorem Sr {K:ae}{a:Addr}{xs:List V}{g:TG}{tb:TS}{D:kM}{σ:St}{H:Hp}(Pv:Nat->St->Hp->Prop)(h0:Pv 0 σ H)(hl:∀ i σ H,i<=xs.length->Pv i σ H->SqT K H a xs)
  (hs:∀ i x σ H,xs[i]?=some x->Pv i σ H->g x σ H fun σ2 H2=>tb { D with nx:=Pv (i+1),ct:=Pv (i+1),bk:=D.nx } σ2 H2) (hd:∀ σ H,Pv xs.length σ H->D.nx σ H) :
  ∃ W:Nat->Nat->St->Hp->Prop,(∃ m,W 0 m σ H)∧∀ i m σ H,W i m σ H ->
   ((Itt K a).stop i H∧D.nx σ H)∨((Itt K a).go i H∧∃ N:St->Hp->Prop,(∀ σ' H',N σ' H'->∃ m',m'<m∧W (i+1) m' σ' H')∧∀ x H',(Itt K a).yld i H x H'->g x σ H' fun σ2 H2=>tb { D with nx:=N,ct:=N,bk:=D.nx } σ2 H2):=by
 refine⟨fun i m σ H=>m=xs.length-i∧i<=xs.length∧Pv i σ H,⟨xs.length,by simp,b6 _,h0⟩,?_⟩;rintro i m σ H ⟨rfl,hi,p⟩;have q:=hl i σ H hi p;by_cases hlt:i<xs.length
 ·refine .inr ⟨⟨xs,xs[i],q,by simp[hlt]⟩,Pv (i+1),fun σ' H' p'=>⟨xs.length-(i+1),by omega,rfl,hlt,p'⟩,fun x H' y=>?_⟩
  obtain⟨e,y⟩:=y;subst e;exact hs i x σ _ (y xs q) p
 ·have e:i=xs.length:=by omega
  subst e;exact .inl ⟨⟨xs,q,af _⟩,hd σ H p⟩
theorem fQ {lo:Int}{n:Nat}{g:TG}{tb:TS}{D:kM}{σ:St}{H:Hp}(Pv:Nat->St->Hp->Prop)(h0:Pv 0 σ H)
  (hs:∀ i σ H,i<n->Pv i σ H->g (.int (lo+i)) σ H fun σ2 H2=>tb { D with nx:=Pv (i+1),ct:=Pv (i+1),bk:=D.nx } σ2 H2) (hd:∀ σ H,Pv n σ H->D.nx σ H) :
  ∃ W:Nat->Nat->St->Hp->Prop,(∃ m,W 0 m σ H)∧∀ i m σ H,W i m σ H ->
   ((Itr lo n).stop i H∧D.nx σ H)∨((Itr lo n).go i H∧∃ N:St->Hp->Prop,(∀ σ' H',N σ' H'->∃ m',m'<m∧W (i+1) m' σ' H')∧∀ x H',(Itr lo n).yld i H x H'->g x σ H' fun σ2 H2=>tb { D with nx:=N,ct:=N,bk:=D.nx } σ2 H2):=by
 refine⟨fun i m σ H=>m=n-i∧i<=n∧Pv i σ H,⟨n,by simp,b6 _,h0⟩,?_⟩;rintro i m σ H ⟨rfl,hi,p⟩;by_cases hlt:i<n
 ·refine .inr ⟨hlt,Pv (i+1),fun σ' H' p'=>⟨n-(i+1),by omega,rfl,hlt,p'⟩,fun x H' y=>?_⟩
  obtain⟨e,y⟩:=y;subst e y;exact hs i σ _ hlt p
 ·have e:i=n:=by omega
  subst e;exact .inl ⟨af _,hd σ H p⟩
abbrev R2:=V->V->Hp->VK->Prop
def OpR (X:Cx)(f:Value->Value->Sem Value)(r:R2):Prop :=
 ∀ (pins:List (Addr×Obj)) (s:Shared) (σ:St) (H:Hp) (x y:V) (v u:Value) (Q:VK),Inv X pins σ H s->bE x v->bE y u->r x y H Q ->
  wpAny (model X.prog X.w) X.A (f v u) (EP X pins σ Q) X.xe s
def UnR (X:Cx)(f:Value->Sem Value)(r:V->Hp->VK->Prop):Prop :=
 ∀ (pins:List (Addr×Obj)) (s:Shared) (σ:St) (H:Hp) (x:V) (v:Value) (Q:VK),Inv X pins σ H s->bE x v->r x H Q ->
  wpAny (model X.prog X.w) X.A (f v) (EP X pins σ Q) X.xe s
def eA (X:Cx)(f:Value)(r:List V->Hp->VK->Prop):Prop :=
 ∀ (pins:List (Addr×Obj)) (s:Shared) (σ:St) (H:Hp) (xs:List V) (us:List Value) (Q:VK),Inv X pins σ H s->bV xs us->r xs H Q ->
  wpAny (model X.prog X.w) X.A (call f us) (EP X pins σ Q) X.xe s
def tOp (r:R2)(ta tb:TE):TE:=fun σ H Q=>ta σ H fun x H1=>tb σ H1 fun y H2=>r x y H2 Q
def tUn (r:V->Hp->VK->Prop)(ta:TE):TE:=fun σ H Q=>ta σ H fun x H1=>r x H1 Q
def rI (C:Int->Int->Prop)(g:Int->Int->V):R2:=fun x y H Q=>∃ i j,x = .int i∧y = .int j∧C i j∧Q (g i j) H
def rI0 (g:Int->Int->V):R2:=fun x y H Q=>∃ i j,x = .int i∧y = .int j∧Q (g i j) H
def rU (g:Int->V):V->Hp->VK->Prop:=fun x H Q=>∃ i,x = .int i∧Q (g i) H
section
variable {X:Cx}{a b c:Expr}{ta tb tc:TE}{pos:Pos}
theorem Wm (ha:PE X a ta)(hb:PE X b tb){pins:List (Addr×Obj)}{s:Shared}{σ:St}{H:Hp}{R:V->V->Hp->Prop}(I:Inv X pins σ H s)
  (h:ta σ H fun x H1=>tb σ H1 fun y H2=>R x y H2) {Q:Value->Shared->Prop} {f:Value->Value->Sem Value}
  (hf:∀ v u s2 x y H2,Inv X pins σ H2 s2->bE x v->bE y u->R x y H2->wpAny (model X.prog X.w) X.A (f v u) Q X.xe s2) :
  wpAny (model X.prog X.w) X.A (eval a X.env) (fun v s₁=>wpAny (model X.prog X.w) X.A (eval b X.env) (fun u s₂=>wpAny (model X.prog X.w) X.A (f v u) Q X.xe s₂) X.xe s₁) X.xe s:=by
 refine thn (ha pins s σ H _ I h) fun v s1 ⟨x,H1,I1,r1,q1⟩=>?_
 refine thn (hb pins s1 σ H1 _ I1 q1) fun u s2 ⟨y,H2,I2,r2,q2⟩=>?_
 exact hf v u s2 x y H2 I2 r1 r2 q2
theorem aQ {op:Operator}{r:R2}(ho:OpR X (binaryOp op) r)(ha:PE X a ta)(hb:PE X b tb):PE X (.BinOp a op b pos) (tOp r ta tb):=by
 intro pins s σ H Q I h;exact wpAny_BinOp (Wm ha hb I h fun v u s2 x y H2 I2 rx ry q=>ho pins s2 σ H2 x y v u Q I2 rx ry q)
theorem mF {op:UnaryOp}{r:V->Hp->VK->Prop}(ho:UnR X (unaryOp op) r)(ha:PE X a ta):PE X (.UnaryOp op a pos) (tUn r ta):=by
 intro pins s σ H Q I h;exact UnaryOp_ (thn (ha pins s σ H _ I h) fun v s1 ⟨x,H1,I1,r1,q1⟩=>ho pins s1 σ H1 x v Q I1 r1 q1)
theorem opI {f:Value->Value->Sem Value}{C:Int->Int->Prop}{g:Int->Int->Int}
  (rule:∀ (i j:Int) (t u:Tok) (s:Shared) (Q:Value->Shared->Prop) (E:Value->Shared->Prop),C i j->Q (.int (g i j) s.toks) { s with toks:=s.toks+1 }->wpAny (model X.prog X.w) X.A (f (.int i t) (.int j u)) Q E s) :
  OpR X f (rI C fun i j=>.int (g i j)):=by
 intro pins s σ H x y v u Q I rx ry h;obtain⟨i,j,rfl,rfl,hc,q⟩:=h;obtain⟨t,rfl⟩:=rx;obtain⟨t',rfl⟩:=ry;exact rule i j t t' s _ _ hc ⟨.int (g i j),H,I.tok _,⟨_,rfl⟩,q⟩
theorem Zv {f:Value->Value->Sem Value}{g:Int->Int->Int}
  (rule:∀ (i j:Int) (t u:Tok) (s:Shared) (Q:Value->Shared->Prop) (E:Value->Shared->Prop),Q (.int (g i j) s.toks) { s with toks:=s.toks+1 }->wpAny (model X.prog X.w) X.A (f (.int i t) (.int j u)) Q E s) :
  OpR X f (rI0 fun i j=>.int (g i j)):=by
 intro pins s σ H x y v u Q I rx ry h;obtain⟨i,j,rfl,rfl,q⟩:=h;obtain⟨t,rfl⟩:=rx;obtain⟨t',rfl⟩:=ry;exact rule i j t t' s _ _ ⟨.int (g i j),H,I.tok _,⟨_,rfl⟩,q⟩
theorem Rj {f:Value->Value->Sem Value}{g:Int->Int->Bool}
  (rule:∀ (i j:Int) (t u:Tok) (s:Shared) (Q:Value->Shared->Prop) (E:Value->Shared->Prop),Q (.bool (g i j)) s->wpAny (model X.prog X.w) X.A (f (.int i t) (.int j u)) Q E s) :
  OpR X f (rI0 fun i j=>.bl (g i j)):=by
 intro pins s σ H x y v u Q I rx ry h;obtain⟨i,j,rfl,rfl,q⟩:=h;obtain⟨t,rfl⟩:=rx;obtain⟨t',rfl⟩:=ry;exact rule i j t t' s _ _ ⟨.bl (g i j),H,I,rfl,q⟩
def aAU (i j:Int):Prop:=0<j∧j<1073741824
def aAg (i j:Int):Prop:=0<=j∧j<=1000000∧i.natAbs<2 ^ 64
def Vv (i j:Int):Prop:=(-(2 ^ 64)<i∧i<2 ^ 64)∨(-(2 ^ 64)<j∧j<2 ^ 64)
theorem Vv.ok {i j:Int}(h:Vv i j):IntMulOk i j:=by
 rcases h with ⟨h1,h2⟩ | ⟨h1,h2⟩
 ·exact .of_left (intBits_le_64 h1 h2)
 ·exact .of_right (intBits_le_64 h1 h2)
theorem dJ:OpR X (binaryOp .Add) (rI0 fun i j=>.int (i+j)):=Zv fun _ _ _ _ _ _ _ q=>add_int q
theorem eR:OpR X (binaryOp .Sub) (rI0 fun i j=>.int (i-j)):=Zv fun _ _ _ _ _ _ _ q=>sub_int q
theorem mM:OpR X (binaryOp .Mult) (rI Vv fun i j=>.int (i*j)):=opI fun _ _ _ _ _ _ _ hc q=>mul_int q hc.ok
theorem iK:OpR X (binaryOp .FloorDiv) (rI aAU fun i j=>.int (i/j)):=opI fun i j _ _ _ _ _ hc q=>by
 have h1:(0:Int)<j:=hc.1;have h2:j<1073741824:=hc.2;exact floordiv_int (by omega) (by rw[mo i (by omega)];exact q) (.inl (PyProof.noPylong_small (by omega)))
theorem cT:OpR X (binaryOp .Mod) (rI (fun _ j=>0<j) fun i j=>.int (i % j)):=opI fun i j _ _ _ _ _ hc q=>by
 have h1:(0:Int)<j:=hc;exact mod_int' (by omega) (by rw[Int.fmod_eq_emod_of_nonneg i (by omega)];exact q)
theorem Wy:OpR X (binaryOp .Pow) (rI aAg fun i j=>.int (i ^ j.toNat)):=opI fun _ _ _ _ _ _ _ hc q=>pow_int_small hc.1 hc.2.1 hc.2.2 q
theorem unI {f:Value->Sem Value}{g:Int->Int}
  (rule:∀ (i:Int) (t:Tok) (s:Shared) (Q:Value->Shared->Prop) (E:Value->Shared->Prop),Q (.int (g i) s.toks) { s with toks:=s.toks+1 }->wpAny (model X.prog X.w) X.A (f (.int i t)) Q E s) :
  UnR X f (rU fun i=>.int (g i)):=by
 intro pins s σ H x v Q I rx h;obtain⟨i,rfl,q⟩:=h;obtain⟨t,rfl⟩:=rx;exact rule i t s _ _ ⟨.int (g i),H,I.tok _,⟨_,rfl⟩,q⟩
theorem iO:UnR X (unaryOp .USub) (rU fun i=>.int (-i)):=unI fun _ _ _ _ _ q=>neg_int q
end
def Zl:V->V->Bool
 | .non,.non=>true | .non,.int _=>true | .int _,.non=>true | .non,.bl _=>true | .bl _,.non=>true | .non,.str _=>true | .str _,.non=>true
 | .int _,.int _=>true | .bl _,.bl _=>true | .str _,.str _=>true | .byt _,.byt _=>true
 | .int _,.str _=>true | .str _,.int _=>true | .bl _,.str _=>true | .str _,.bl _=>true
 | _,_=>false
def rEq:R2:=fun x y H Q=>Zl x y=true∧Q (.bl (decide (x=y))) H
def rNe:R2:=fun x y H Q=>Zl x y=true∧Q (.bl (!decide (x=y))) H
theorem rF {i j:Int}:decide (V.int i=V.int j)=(i==j):=by
 rw[c9];simp
theorem Qz {i j:Bool}:decide (V.bl i=V.bl j)=(i==j):=by
 rw[c9];simp
theorem Gs {i j:Str}:decide (V.str i=V.str j)=(i==j):=by
 rw[c9];simp
theorem Ik {i j:Array UInt8}:decide (V.byt i=V.byt j)=(i.toList==j.toList):=by
 rw[c9];cases i;cases j;simp
section
variable {X:Cx}{a b c:Expr}{ta tb tc:TE}{pos:Pos}
theorem bY {pins:List (Addr×Obj)}{σ:St}{H:Hp}{s:Shared}{Q:VK}{k k':Bool}(I:Inv X pins σ H s)(q:Q (.bl k) H)(e:k=k'):EP X pins σ Q (.bool k') s:=by
 subst e;exact⟨.bl k,H,I,rfl,q⟩
theorem Uk:OpR X (compareOp .Eq) rEq:=by
 intro pins s σ H x y v u Q I rx ry h;obtain⟨hs,q⟩:=h
 cases x with
 | non =>
  cases rx
  cases y with
  | non=>cases ry;exact PySem.EqNone.eq_none_none (bY I q (by simp))
  | bl j=>cases ry;exact PySem.EqNone.eq_none_bool (bY I q (by simp))
  | int j=>obtain⟨t',rfl⟩:=ry;exact PySem.EqNone.eq_none_int (bY I q (by simp))
  | str j=>obtain⟨t',rfl⟩:=ry;exact PySem.EqNone.eq_none_str (bY I q (by simp))
  | _=>exact absurd (show false=true from hs) am
 | bl i =>
  cases rx
  cases y with
  | non=>cases ry;exact PySem.EqNone.eq_bool_none (bY I q (by simp))
  | bl j=>cases ry;exact eq_bool (bY I q Qz)
  | str j=>obtain⟨t',rfl⟩:=ry;exact uj (bY I q (by simp))
  | _=>exact absurd (show false=true from hs) am
 | int i =>
  obtain⟨t,rfl⟩:=rx
  cases y with
  | non=>cases ry;exact PySem.EqNone.eq_int_none (bY I q (by simp))
  | int j=>obtain⟨t',rfl⟩:=ry;exact eq_int (bY I q rF)
  | str j=>obtain⟨t',rfl⟩:=ry;exact uq (bY I q (by simp))
  | _=>exact absurd (show false=true from hs) am
 | str i =>
  obtain⟨t,rfl⟩:=rx
  cases y with
  | non=>cases ry;exact PySem.EqNone.eq_str_none (bY I q (by simp))
  | bl j=>cases ry;exact uk (bY I q (by simp))
  | int j=>obtain⟨t',rfl⟩:=ry;exact ur (bY I q (by simp))
  | str j=>obtain⟨t',rfl⟩:=ry;exact eq_str (bY I q Gs)
  | _=>exact absurd (show false=true from hs) am
 | byt i =>
  obtain⟨t,rfl⟩:=rx
  cases y with
  | byt j=>obtain⟨t',rfl⟩:=ry;exact PySem.W.eq_bytes (bY I q Ik)
  | _=>exact absurd (show false=true from hs) am
 | _=>cases y <;> exact absurd (show false=true from hs) am
theorem Vf:OpR X (compareOp .NotEq) rNe:=by
 intro pins s σ H x y v u Q I rx ry h;obtain⟨hs,q⟩:=h
 cases x with
 | non =>
  cases rx
  cases y with
  | non=>cases ry;exact PySem.EqNone.ne_none_none (bY I q (by simp))
  | bl j=>cases ry;exact PySem.EqNone.ne_none_bool (bY I q (by simp))
  | int j=>obtain⟨t',rfl⟩:=ry;exact PySem.EqNone.ne_none_int (bY I q (by simp))
  | str j=>obtain⟨t',rfl⟩:=ry;exact PySem.EqNone.ne_none_str (bY I q (by simp))
  | _=>exact absurd (show false=true from hs) am
 | bl i =>
  cases rx
  cases y with
  | non=>cases ry;exact PySem.EqNone.ne_bool_none (bY I q (by simp))
  | bl j=>cases ry;exact ne_bool (bY I q (congrArg not Qz))
  | str j=>obtain⟨t',rfl⟩:=ry;exact um (bY I q (by simp))
  | _=>exact absurd (show false=true from hs) am
 | int i =>
  obtain⟨t,rfl⟩:=rx
  cases y with
  | non=>cases ry;exact PySem.EqNone.ne_int_none (bY I q (by simp))
  | int j=>obtain⟨t',rfl⟩:=ry;exact ne_int (bY I q (congrArg not rF))
  | str j=>obtain⟨t',rfl⟩:=ry;exact ut (bY I q (by simp))
  | _=>exact absurd (show false=true from hs) am
 | str i =>
  obtain⟨t,rfl⟩:=rx
  cases y with
  | non=>cases ry;exact PySem.EqNone.ne_str_none (bY I q (by simp))
  | bl j=>cases ry;exact uo (bY I q (by simp))
  | int j=>obtain⟨t',rfl⟩:=ry;exact uu (bY I q (by simp))
  | str j=>obtain⟨t',rfl⟩:=ry;exact ne_str (bY I q (congrArg not Gs))
  | _=>exact absurd (show false=true from hs) am
 | byt i =>
  obtain⟨t,rfl⟩:=rx
  cases y with
  | byt j=>obtain⟨t',rfl⟩:=ry;exact PySem.W.ne_bytes (bY I q (congrArg not Ik))
  | _=>exact absurd (show false=true from hs) am
 | _=>cases y <;> exact absurd (show false=true from hs) am
theorem kZ:OpR X (compareOp .Lt) (rI0 fun i j=>.bl (decide (i<j))):=Rj fun _ _ _ _ _ _ _ q=>lt_int q
theorem Yn:OpR X (compareOp .LtE) (rI0 fun i j=>.bl (decide (i<=j))):=Rj fun _ _ _ _ _ _ _ q=>le_int q
theorem lY:OpR X (compareOp .Gt) (rI0 fun i j=>.bl (decide (j<i))):=Rj fun _ _ _ _ _ _ _ q=>gt_int q
theorem Py:OpR X (compareOp .GtE) (rI0 fun i j=>.bl (decide (j<=i))):=Rj fun _ _ _ _ _ _ _ q=>ge_int q
theorem zL:OpR X (compareOp .NotIn) (fun x y H Q=>∃ i j,x = .str i∧y = .str j∧Q (.bl (!(!(Builtin.Str.occurrences j i 0 j.length 1).isEmpty))) H):=by
 intro pins s σ H x y v u Q I rx ry h;obtain⟨i,j,rfl,rfl,q⟩:=h;obtain⟨t,rfl⟩:=rx;obtain⟨t',rfl⟩:=ry;exact notIn_str (bY I q rfl)
theorem aW (b:Expr){op:CmpOp}(h:op≠.In:=by decide)(h2:op≠.NotIn:=by decide):behindInMarks op b=false:=by
 have e1:(op==CmpOp.In)=false:=by cases op <;> first | rfl | exact absurd rfl h
 have e2:(op==CmpOp.NotIn)=false:=by cases op <;> first | rfl | exact absurd rfl h2
 cases b <;> simp[behindInMarks,e1,e2]
theorem Gm {op:CmpOp}{r:R2}(ho:OpR X (compareOp op) r)(ha:PE X a ta)(hb:PE X b tb)(hm:behindInMarks op b=false):PE X (.Compare a [op] [b] pos) (tOp r ta tb):=by
 intro pins s σ H Q I h;exact wpAny_Compare1 (Wm ha hb I h fun v u s2 x y H2 I2 rx ry q=>ho pins s2 σ H2 x y v u Q I2 rx ry q) hm
def aAI (t:TE):TT:=fun σ H Q=>t σ H fun x H'=>∃ k,x = .bl k∧Q k H'
theorem aP {op:CmpOp}{r:R2}(ho:OpR X (compareOp op) r)(ha:PE X a ta)(hb:PE X b tb)(hm:behindInMarks op b=false):PT X (.Compare a [op] [b] pos) (aAI (tOp r ta tb)):=by
 intro pins s σ H Q I h;refine wpAny_isTrue_Compare1 (thn (ha pins s σ H _ I h) fun v s1 ⟨x,H1,I1,r1,q1⟩=>thn (hb pins s1 σ H1 _ I1 q1) fun u s2 ⟨y,H2,I2,r2,q2⟩ =>
  thn (ho pins s2 σ H2 x y v u _ I2 r1 r2 q2) fun c s3 ⟨z,H3,I3,r3,k,e,q3⟩=>?_) hm
 subst e;cases r3;exact wpAny_truthy_bool ⟨H3,I3,q3⟩
theorem tZ:(sizeLine:Nat)<2 ^ 63:=by rw[sizeLine_eq];decide
theorem Ep:OpR X (binaryOp .Add) (fun x y H Q=>∃ i j,x = .str i∧y = .str j∧i.length+j.length<=sizeLine∧Q (.str (i++j)) H):=by
 intro pins s σ H x y v u Q I rx ry h;obtain⟨i,j,rfl,rfl,hz,q⟩:=h;obtain⟨t,rfl⟩:=rx;obtain⟨t',rfl⟩:=ry;exact add_str (fun t' tk=>⟨.str (i++j),H,I.tok _,⟨_,rfl⟩,q⟩) hz
theorem eZ {x:V}{us:List Value}(r:bV [x] us):∃ u,us=[u]∧bE x u:=by
 cases r with
 | cons r1 r2=>cases r2;exact⟨_,rfl,r1⟩
theorem Uq {x y:V}{us:List Value}(r:bV [x,y] us):∃ u w',us=[u,w']∧bE x u∧bE y w':=by
 cases r with
 | cons r1 r2 =>
  cases r2 with
  | cons r3 r4=>cases r4;exact⟨_,_,rfl,r1,r3⟩
theorem Mu:eA X (.builtin "abs") (fun xs H Q=>∃ i,xs=[.int i]∧Q (.int (if i<0 then -i else i)) H):=by
 intro pins s σ H xs us Q I r h;obtain⟨i,rfl,q⟩:=h;obtain⟨u,rfl,t,rfl⟩:=eZ r;exact call_abs_int fun u tk=>⟨.int (if i<0 then -i else i),H,I.tok _,⟨_,rfl⟩,q⟩
theorem wG (hc:X.calm=true):eA X (.builtin "min") (fun xs H Q=>∃ i j,xs=[.int i,.int j]∧Q (.int (if j<i then j else i)) H):=by
 intro pins s σ H xs us Q I r h;obtain⟨i,j,rfl,q⟩:=h;obtain⟨u,w',rfl,⟨t,rfl⟩,⟨t',rfl⟩⟩:=Uq r;refine min_two_ints (I.ok.hd hc) fun h' tk k=>⟨_,H,I.kept k,?_,q⟩
 by_cases hj:j<i
 ·rw[if_pos hj,if_pos hj];exact⟨_,rfl⟩
 ·rw[if_neg hj,if_neg hj];exact⟨_,rfl⟩
end
structure Ky (h:Heap)(x dx C:Addr)(mA:Str->Option Value):Prop where
 obj:h.get? x=some (gv C dx)
 ns:h.Ns1 dx mA
 ne:dx≠x
theorem Jp {h:Heap}{dx:Addr}{mA:Str->Option Value}(n:h.Ns1 dx mA):∃ od,h.get? dx=some od∧∀ name,pz name od=some (mA name):=by
 obtain⟨o,es,ep,ho,hd,hk,_,hm⟩:=n;refine⟨o,ho,fun name=>?_⟩;have e:=hm name;unfold nsFind findBy at e;rw[<- Array.find?_toList] at e;unfold pz;rw[hd]
 dsimp only
 split
 ·rename_i y q
  rw[q] at e;exact congrArg some e
 ·rename_i q
  rw[q] at e;have a:es.toList.any (·.refKey)=false:=by
   rw[List.any_eq_false];intro y hy;obtain⟨z,t,hkey⟩:=hk y (Array.mem_toList_iff.mp hy);simp[DictEntry.refKey,hkey]
  have a':¬ es.toList.any (·.refKey)=true:=by rw[a];exact am
  rw[if_neg a'];exact congrArg some e
theorem Ky.look {h:Heap}{x dx C:Addr}{mA:Str->Option Value}(I:Ky h x dx C mA):∃ od,PySem.W.InstAt h x (gv C dx) C (some od)∧∀ name,pz name od=some (mA name) :=
 let ⟨od,ho,hl⟩:=Jp I.ns
 ⟨od,⟨I.obj,rfl,rfl,ho⟩,hl⟩
section
variable {prog:Program}{w:World}{A:Around}{E:Value->Shared->Prop}{s:Shared}{K:ae}{x dx C f:Addr}{mA:Str->Option Value}{name:Str}{v:Value}
theorem Tw {expr:Bool}{Q:Value->Shared->Prop}(X:K.In s.heap)(I:Ky s.heap x dx C mA)(hg:ln K C name=true)(hh:kr K C=true)
  (ha:eg K (.ref C) name=some none) (hv:mA name=some v) (hv':sd v=true) (h:Q v { s with toks:=s.toks+1 }) :
  wpAny (model prog w) A (getAttr (.ref x) name expr) Q E s:=by
 obtain⟨od,J,hl⟩:=I.look;exact PySem.W.get_value X J (PySem.W.plainGet_of hg).1 (PySem.W.findObj_own hh ha rfl (by rw[hl,hv])) hv' h
theorem Ua {ns:List Str}{Q:Unit->Shared->Prop}(X:K.In s.heap)(I:Ky s.heap x dx C mA)
  (hs:eg K (.ref C) "__setattr__" = some (some (.builtin "object.__setattr__"))) (hp:m8 K C=true) (ht:o0 K C name=some none) (hh:kr K C=true)
  (hw:qz mA ns) (hsz:ns.length<=sizeLine)
  (h:∀ h',Ky h' x dx C (fun y=>if y=name then some v else mA y)->Heap.SameBut dx s.heap h'->Q () { s with heap:=h',toks:=s.toks+2 }) :
  wpAny (model prog w) A (setAttr (.ref x) name v) Q E s:=by
 obtain⟨od,J,hl⟩:=I.look;refine PySem.W.set_plain X J hs (PySem.W.osa_open (s:={ s with toks:=s.toks+1 }) (r:=none) X J hp ht fun b=>?_);obtain⟨cd,hc,hd'⟩:=PySem.W.any_some hh;have hx:s.heap.get? x=some ⟨.ref C,some dx,.plain,#[]⟩:=I.obj;refine wpAny_bind (wpAny_pure (wpAny_bind (wpAny_bind (wpAny_loadPart hx (wpAny_bind (u6 (s:={ s with toks:=s.toks+1 }) (PySem.W.looks_clsIn X hc) ?_))))));rw[hd'];refine wpAny_pure (a:=some dx) (wpAny_bind (wpAny_pure (wpAny_bind ?_)));refine wpAny_nsSet1 (s:={ s with toks:=s.toks+1 }) I.ns fun h' hn2 hs2=>?_
 obtain⟨oD,esD,epD,hoD,hdD,hcD⟩:=hn2.count (PySem.Within.cons name v hw);refine wpAny_bind (wpAny_lookBehind hoD (by rw[hdD];exact pastItsLine_dict (av hcD (by rw[aq];omega))) ?_);exact wpAny_pure (h _ ⟨(hs2.2 _ (Ne.symm I.ne)).trans I.obj,hn2,I.ne⟩ hs2)
theorem On {R:Result->Shared->Prop}{vs:List Value}{kw:List (Str×Value)}(X:K.In s.heap)(hm:o6 K C=true)
  (hi:eg K (.ref C) "__init__" = some (some (.ref f))) (hf:PySem.W.typeIn K (.ref f)=some (.type "function"))
  (h:codeAny (model prog w) (A.under (.builtin "type.__call__" ⟨.ref C::vs,kw⟩)) (.call (.ref f) ⟨.ref (s.heap.objs.size+1)::vs,kw⟩) (PySem.W.InitBack (s.heap.objs.size+1) R)
   { s with heap:=(s.heap.push fb).push (gv C s.heap.objs.size) }) :
  codeAny (model prog w) A (.call (.ref C) ⟨vs,kw⟩) R s:=by
 obtain⟨hh,g,d,t,os⟩:=s;exact PySem.W.make_core (PySem.W.makes_of X hm) (PySem.W.looks_findIn X hi) (fun self=>PySem.W.bind_fn X self hf) (.inl rfl) h
end
def jL (f:Str)(v:V):List (Str×V)->List (Str×V)
 | []=>[(f,v)]
 | (g,x)::r=>if g=f then (g,v)::r else (g,x)::jL f v r
theorem iF (f g:Str)(v:V):∀ fs:List (Str×V),(jL f v fs).lookup g=if g=f then some v else fs.lookup g
 | []=>by
  show jv g [(f,v)]=_;by_cases h:g=f
  ·have hb:(g==f)=true:=beq_iff_eq.mpr h
   simp only [jv,hb,if_pos h]
  ·have hb:(g==f)=false:=beq_eq_false_iff_ne.mpr h
   simp only [jv,hb,if_neg h]
 | (k,x)::r=>by
  have ih:=iF f g v r;rw[show jL f v ((k,x)::r)=(if k=f then (k,v)::r else (k,x)::jL f v r) from rfl];by_cases hk:k=f
  ·rw[if_pos hk]
   by_cases h:g=k
   ·have hb:(g==k)=true:=beq_iff_eq.mpr h
    simp only [jv,hb,if_pos (h.trans hk)]
   ·have hb:(g==k)=false:=beq_eq_false_iff_ne.mpr h
    simp only [jv,hb,if_neg (fun e:g=f=>h (e.trans hk.symm))]
  ·rw[if_neg hk]
   by_cases h:g=k
   ·have hb:(g==k)=true:=beq_iff_eq.mpr h
    simp only [jv,hb,if_neg (fun e:g=f=>hk (h.symm.trans e))]
   ·have hb:(g==k)=false:=beq_eq_false_iff_ne.mpr h
    simp only [jv,hb];exact ih
theorem oI (f:Str)(v:V):∀ fs:List (Str×V),f∈(jL f v fs).map (·.1)∧∀ g,g∈fs.map (·.1)->g∈(jL f v fs).map (·.1)
 | []=>⟨by simp[jL],fun g h=>by simp at h⟩
 | (k,x)::r=>by
  obtain⟨i1,i2⟩:=oI f v r;rw[show jL f v ((k,x)::r)=(if k=f then (k,v)::r else (k,x)::jL f v r) from rfl];by_cases hk:k=f
  ·rw[if_pos hk]
   subst hk;exact⟨by simp,fun g h=>by simpa using h⟩
  ·rw[if_neg hk]
   refine⟨?_,fun g h=>?_⟩
   ·rw[ap]
    exact aj _ i1
   ·rw[ap] at h ⊢
    rcases ar.mp h with e | e
    ·exact ar.mpr (.inl e)
    ·exact aj _ (i2 g e)
theorem qI (f:Str)(v:V):∀ fs:List (Str×V),(jL f v fs).length<=fs.length+1
 | []=>by simp[jL]
 | (k,x)::r=>by
  have ih:=qI f v r;rw[show jL f v ((k,x)::r)=(if k=f then (k,v)::r else (k,x)::jL f v r) from rfl];by_cases hk:k=f
  ·rw[if_pos hk,aq,aq];omega
  ·rw[if_neg hk,aq,aq];omega
theorem jG.some_of {v:V}{o:Option Value}(r:jG (some v) o):∃ u,o=some u∧bE v u:=by
 cases o with
 | none=>exact (show False from r).elim
 | some u=>exact⟨u,rfl,r⟩
theorem jG.none_of {o:Option Value}(r:jG none o):o=none:=by
 cases o with
 | none=>rfl
 | some u=>exact (show False from r).elim
theorem Lb {v:V}{u:Value}(r:bE v u):sd u=true:=by
 cases v with
 | non=>cases (show u=Value.none from r);rfl
 | bl b=>cases (show u=Value.bool b from r);rfl
 | int i=>obtain⟨t,e⟩:=(show ∃ t,u=Value.int i t from r);cases e;rfl
 | str x=>obtain⟨t,e⟩:=(show ∃ t,u=Value.str x t from r);cases e;rfl
 | byt b=>obtain⟨t,e⟩:=(show ∃ t,u=Value.bytes b t from r);cases e;rfl
 | flt b=>obtain⟨t,e⟩:=(show ∃ t,u=Value.float b t from r);cases e;rfl
 | ref a=>cases (show u=Value.ref a from r);rfl
 | ty n=>cases (show u=Value.type n from r);rfl
section
variable {P:Program}{w:World}{H H':Hp}{h h':Heap}{a C dx:Addr}{fs fs':List (Str×V)}
theorem xR (hok:HOk P w H h)(e:H a=some (.ins C dx fs)):∃ mA,Ky h a dx C mA∧(∀ f,jG (fs.lookup f) (mA f))∧qz mA (fs.map (·.1))∧fs.length<=1000∧H dx=some (.own a):=by
 obtain⟨d,z,ne,ob,mA,n,r,q⟩:=(show cK P w H h a (.ins C dx fs) from hok a _ e);exact⟨mA,⟨ob,n,ne⟩,r,q,z,d⟩
end
structure Cls (K:ae)(C:Addr):Prop where
 pg:ln K C Str.empty=true
 hd:kr K C=true
 po:m8 K C=true
 sa:eg K (.ref C) "__setattr__" = some (some (.builtin "object.__setattr__"))
theorem Cls.get {K:ae}{C:Addr}(c:Cls K C)(f:Str):ln K C f=true:=c.pg
def kY (K:ae)(C:Addr)(f:Str):Prop:=eg K (.ref C) f=some none
theorem kY.taker {K:ae}{C:Addr}{f:Str}(n:kY K C f):o0 K C f=some none:=by
 unfold o0;rw[show eg K (.ref C) f=some none from n];rfl
section
variable {X:Cx}{pins:List (Addr×Obj)}{σ:St}{H:Hp}{s:Shared}{a C dx:Addr}{fs:List (Str×V)}{f:Str}{v:V}{A:Around}{E:Value->Shared->Prop}
theorem Fh {b:Bool}{Q:Value->Shared->Prop}(I:Inv X pins σ H s)(e:H a=some (.ins C dx fs))(c:Cls X.K C)(n:kY X.K C f)(l:fs.lookup f=some v)
  (h:∀ u s',Inv X pins σ H s'->bE v u->Q u s'):wpAny (model X.prog X.w) A (getAttr (.ref a) f b) Q E s:=by
 obtain⟨mA,O,r,_,_,_⟩:=xR I.hok e;obtain⟨u,hu,ru⟩:=jG.some_of (v:=v) (o:=mA f) (by rw[<- l];exact r f);exact Tw I.kIn O (c.get f) c.hd n hu (Lb ru) (h u _ (I.tok _) ru)
theorem Eg {y:V}{u:Value}{Q:Unit->Shared->Prop}(I:Inv X pins σ H s)(e:H a=some (.ins C dx fs))(c:Cls X.K C)(n:kY X.K C f)(hl:fs.length<1000)(ry:bE y u)
  (h:∀ s',Inv X pins σ (upd H a (.ins C dx (jL f y fs))) s'->Q () s'):wpAny (model X.prog X.w) A (setAttr (.ref a) f u) Q E s:=by
 obtain⟨mA,O,r,wi,_,ho⟩:=xR I.hok e;have hz:(fs.map (·.1)).length<=sizeLine:=by rw[aR,sizeLine_eq];omega
 refine Ua I.kIn O c.sa c.po n.taker c.hd wi hz fun h' O' sb=>h _ ?_
 have hd:∃ o,h'.get? dx=some o:=let ⟨o,_,_,e',_⟩:=O'.ns;⟨o,e'⟩
 refine I.write (x:=a) (e:=dx) (by rw[e];exact True.intro) (.inr ho) (fun b q hb z=>(sb.2 b hb).trans z) hd ?_;refine⟨by rw[aM O.ne];exact ho,?_,O.ne,O'.obj,_,O'.ns,fun g=>?_,fun g hg=>?_⟩
 ·have:=qI f y fs;omega
 ·show jG ((jL f y fs).lookup g) (if g=f then some u else mA g)
  rw[iF];by_cases q:g=f
  ·rw[if_pos q,if_pos q];exact ry
  ·rw[if_neg q,if_neg q];exact r g
 ·by_cases q:g=f
  ·rw[q];exact (oI f y fs).1
  ·refine (oI f y fs).2 g (wi g fun z=>hg ?_)
   show (if g=f then some u else mA g)=none;rw[if_neg q];exact z
theorem Inv.made (I:Inv X pins σ H s):Inv X pins σ (upd (upd H s.heap.objs.size (.own (s.heap.objs.size+1))) (s.heap.objs.size+1) (.ins C s.heap.objs.size []))
  { s with heap:=(s.heap.push fb).push (gv C s.heap.objs.size) }:=by
 have e1:(s.heap.push fb).get? s.heap.objs.size=some fb:=Heap.get?_push_size s.heap rfl;have e2:((s.heap.push fb).push (gv C s.heap.objs.size)).get? (s.heap.objs.size+1)=some (gv C s.heap.objs.size):=by
  have:=Heap.get?_push_size (s.heap.push fb) (o:=gv C s.heap.objs.size) rfl
  rwa [Heap.size_push] at this
 have e3:(s.heap.push fb).Ns s.heap.objs.size (fun _=>none):=⟨fb,#[],_,e1,rfl,(fun e he=>absurd he (by simp)),fun _=>rfl⟩;have I1:=I.laid (a:=s.heap.objs.size) (o:=.own (s.heap.objs.size+1)) (h':=s.heap.push fb) (t':=s.toks) (fun b u q=>Heap.get?_push_of_some _ q) (af _) ⟨_,e1⟩;refine I1.laid (a:=s.heap.objs.size+1) (o:=.ins C s.heap.objs.size []) (t':=s.toks) (fun b u q=>Heap.get?_push_of_some _ q) (ku (Heap.size_push _ _)) ?_;have ne:s.heap.objs.size≠s.heap.objs.size+1:=bb (gj _);refine⟨by rw[aM ne,aD],b6 _,ne,e2,fun _=>none,(Heap.Ns1.of_empty e3).at fun o q=>Heap.get?_push_of_some _ q,fun _=>True.intro,fun y hy=>absurd rfl hy⟩
theorem Sa {prog:Program}{w:World}{env:Env}{e:Expr}{f:Str}{pos:Pos}{s:Shared}{Q:Value->Shared->Prop}(hb:attributeBase e f env (eval e env)=eval e env)
  (h:wpAny (model prog w) A (eval e env) (fun o s₁=>wpAny (model prog w) A (getAttr o f true) Q E s₁) E s):wpAny (model prog w) A (eval (.Attribute e f pos) env) Q E s :=
 Attribute_any_ h (by rw[arm_eval_Attribute,hb])
end
def aAm (K:ae)(ta:TE)(f:Str):TE:=fun σ H Q=>ta σ H fun x H1=>∃ a C dx fs v,x = .ref a∧H1 a=some (.ins C dx fs)∧Cls K C∧kY K C f∧fs.lookup f=some v∧Q v H1
def aAo (K:ae)(ta tv:TE)(f:Str):TS:=fun D σ H=>tv σ H fun y H1=>ta σ H1 fun x H2=>∃ a C dx fs,x = .ref a∧H2 a=some (.ins C dx fs)∧Cls K C∧kY K C f∧fs.length<1000 ∧
 D.nx σ (upd H2 a (.ins C dx (jL f y fs)))
section
variable {X:Cx}{o e value:Expr}{f:Str}{pos pos' tpos:Pos}{ta tv:TE}
theorem fN (he:PE X e ta)(hb:attributeBase e f X.env (eval e X.env)=eval e X.env):PE X (.Attribute e f pos) (aAm X.K ta f):=by
 intro pins s σ H Q I h;refine Sa hb (thn (he pins s σ H _ I h) fun u s1 ⟨x,H1,I1,rx,a,C,dx,fs,v,ex,ea,c,n,l,q⟩=>?_);subst ex;obtain rfl:u=Value.ref a:=rx;exact Fh I1 ea c n l fun u' s2 I2 ru=>⟨v,H1,I2,ru,q⟩
theorem Na (ha:PE X o ta)(hv:PE X value tv)(hs:swapsWith value (some (.Attribute o f pos')) pos.line X.env=pure false):PS X (.Assign [.Attribute o f pos'] value pos) (aAo X.K ta tv f):=by
 intro pins s σ H D I h;refine plainObj_wpAny_Assign_Attribute (thn (hv pins s σ H _ I h) fun u s1 ⟨y,H1,I1,ry,q⟩=>thn (ha pins s1 σ H1 _ I1 q) fun ov s2 ⟨x,H2,I2,rx,a,C,dx,fs,ex,ea,c,n,l,q2⟩=>?_) hs;subst ex;obtain rfl:ov=Value.ref a:=rx;exact Eg I2 ea c n l ry fun s3 I3=>⟨σ,_,I3,q2⟩
end
section
variable {X:Cx}{pins:List (Addr×Obj)}{σ:St}{H:Hp}{s:Shared}{A:Around}{E:Value->Shared->Prop}{Q:Value->Shared->Prop}{c:Value}{b:Bool}
inductive oY (K:ae)(H:Hp):V->Value->Prop where
 | non:oY K H .non (.type "NoneType")
 | bl (x:Bool):oY K H (.bl x) (.type "bool")
 | int (i:Int):oY K H (.int i) (.type "int")
 | str (x:Str):oY K H (.str x) (.type "str")
 | flt (x:UInt64):oY K H (.flt x) (.type "float")
 | lst {a:Addr} {xs:List V} (e:H a=some (.lst xs)):oY K H (.ref a) (.type "list")
 | frz {a:Addr} {o:Obj} {xs:List V} (e:H a=some (.frz o (.lst xs))):oY K H (.ref a) (.type "list")
 | tup {a:Addr} {xs:List V} (e:H a=some (.tup xs)):oY K H (.ref a) (.type "tuple")
 | dK {a:Addr} {kvs:List (Key×V)} (e:H a=some (.dK kvs)):oY K H (.ref a) (.type "dict")
 | dT {a:Addr} {kvs:List (List Key×V)} (e:H a=some (.dT kvs)):oY K H (.ref a) (.type "dict")
 | ins {a C dx:Addr} {fs:List (Str×V)} (e:H a=some (.ins C dx fs)) (cl:Cls K C) (ha:eg K (.ref C) "__class__" = some (some (.builtin "object.__class__")))
  (hn:PySem.W.specialIn K (.builtin "object.__class__") "__get__" = some (some (.builtin "getset_descriptor.__get__"))) (htk:PySem.W.takesIn K (.builtin "object.__class__")=some true)
  (hm:PySem.W.mroIn K C (.type "object")=some true):oY K H (.ref a) (.ref C)
theorem Jt {x:V}{u t:Value}(I:Inv X pins σ H s)(rx:bE x u)(ty:oY X.K H x t)(e:jw X.K t c=some b)(h:∀ tk,Q (.bool b) { s with toks:=tk }) :
  wpAny (model X.prog X.w) A (call (.builtin "isinstance") [u,c]) Q E s:=by
 cases ty with
 | non=>cases (show u=Value.none from rx);exact er PySem.W.kitx_none I.kIn True.intro e (fun z=>nomatch z) h
 | bl y=>cases (show u=Value.bool y from rx);exact er PySem.W.kitx_bool I.kIn True.intro e (fun z=>nomatch z) h
 | int i=>obtain⟨t,q⟩:=(show ∃ t,u=Value.int i t from rx);cases q;exact er PySem.W.kitx_int I.kIn True.intro e (fun z=>nomatch z) h
 | str y=>obtain⟨t,q⟩:=(show ∃ t,u=Value.str y t from rx);cases q;exact er PySem.W.kitx_str I.kIn True.intro e (fun z=>nomatch z) h
 | flt y=>obtain⟨t,q⟩:=(show ∃ t,u=Value.float y t from rx);cases q;exact er PySem.W.kitx_float I.kIn True.intro e (fun z=>nomatch z) h
 | @lst a xs ea =>
  cases (show u=Value.ref a from rx);obtain⟨_,_,n,_,h1⟩:=(show cK X.prog X.w H s.heap a (.lst xs) from I.hok a _ ea);exact er ra I.kIn ⟨_,h1,rfl⟩ e (fun z=>nomatch z) h
 | @frz a ob xs ea =>
  cases (show u=Value.ref a from rx);obtain⟨_,_,_,n,_,h1⟩:=(show cK X.prog X.w H s.heap a (.frz ob (.lst xs)) from I.hok a _ ea);exact er ra I.kIn ⟨_,h1,rfl⟩ e (fun z=>nomatch z) h
 | @tup a xs ea =>
  cases (show u=Value.ref a from rx);obtain⟨_,_,_,p⟩:=(show cK X.prog X.w H s.heap a (.tup xs) from I.hok a _ ea);obtain⟨o,h1,h2,_⟩:=p;exact er PySem.W.kitx_tuple I.kIn ⟨o,h1,h2⟩ e (fun z=>nomatch z) h
 | @dK a kvs ea =>
  cases (show u=Value.ref a from rx);obtain⟨_,_,vs,_,p⟩:=(show cK X.prog X.w H s.heap a (.dK kvs) from I.hok a _ ea);obtain⟨o,es,ep,h1,h2,_⟩:=p;exact er rb I.kIn ⟨o,h1,h2.1⟩ e (fun z=>nomatch z) h
 | @dT a kvs ea =>
  cases (show u=Value.ref a from rx);obtain⟨_,_,xs,_,o,es,ep,h1,h2,_⟩:=(show cK X.prog X.w H s.heap a (.dT kvs) from I.hok a _ ea);exact er rb I.kIn ⟨o,h1,h2.1⟩ e (fun z=>nomatch z) h
 | @ins a C dx fs ea cl ha hn htk hm =>
  cases (show u=Value.ref a from rx);obtain⟨mA,O,_⟩:=xR I.hok ea;obtain⟨od,J,_⟩:=O.look;exact er (PySem.W.kitx_own (cl.get _) cl.hd ha hn htk hm) I.kIn J e (fun z=>nomatch z) h
end
structure fY (k:Nat)(A:Around):Prop where
 hd:A.handled=none
 dp:A.depth+3*k+5<recursionLimit
 un:A.units+16*k+200<cLine
theorem fY.mono {j k:Nat}{A:Around}(r:fY k A)(h:j<=k):fY j A:=⟨r.hd,by have:=r.dp;omega,by have:=r.un;omega⟩
theorem fY.deeper {k:Nat}{A:Around}(r:fY (k+1) A)(env:Env):fY k (A.deeper env) :=
 ⟨r.hd,by have:=r.dp;show A.depth+1+3*k+5<_;omega,by have:=r.un;show A.units+3+16*k+200<_;omega⟩
theorem Fq {A:Around}{C:Addr}{us:List Value}{kw:List (Str×Value)}:(A.under (.builtin "type.__call__" ⟨.ref C::us,kw⟩)).depth=A.depth+1:=by
 first | rfl | simp[Around.under,Code.weight,Code.isCreation,Code.isGuard,Code.isCaller,Code.frames,Code.isFrame,guardIds]
theorem Dg {A:Around}{C:Addr}{us:List Value}{kw:List (Str×Value)}:(A.under (.builtin "type.__call__" ⟨.ref C::us,kw⟩)).units=A.units+1:=by
 first | rfl | simp[Around.under,Code.cUnits,Code.frames,Code.isFrame]
theorem fY.make {k:Nat}{A:Around}(r:fY (k+1) A)(C:Addr)(us:List Value)(kw:List (Str×Value)):fY k (A.under (.builtin "type.__call__" ⟨.ref C::us,kw⟩)) :=
 ⟨r.hd,by have:=r.dp;rw[Fq];omega,by have:=r.un;rw[Dg];omega⟩
theorem fY.depth {k:Nat}{A:Around}(r:fY k A):A.depth<recursionLimit:=by have:=r.dp;omega
theorem fY.units {k:Nat}{A:Around}(r:fY k A):A.units+64<cLine:=by have:=r.un;omega
def Ze:TA:=fun _ H Q=>Q [] H
def tJ (ta:TE)(tr:TA):TA:=fun σ H Q=>ta σ H fun x H1=>tr σ H1 fun xs H2=>Q (x::xs) H2
section
variable {X:Cx}{e:Expr}{es:List Expr}{te:TE}{t:TA}{pos:Pos}
theorem aC:PA X [] Ze:=fun _ _ _ _ H Q I h=>Calls.spliced_nil ⟨[],H,I,.nil,h⟩
theorem aA (ha:PE X e te)(hr:PA X es t)(hs:starEach (e::es) X.env=(false,eval e X.env)::starEach es X.env:=by rfl):PA X (e::es) (tJ te t):=by
 intro pos pins s σ H Q I h;rw[hs];show wpAny _ _ (spliced ((false,eval e X.env)::backTo pos (starEach es X.env))) _ _ s;refine Calls.spliced_cons (thn (ha pins s σ H _ I h) fun u s1 ⟨x,H1,I1,r1,q1⟩=>?_);exact thn (hr pos pins s1 σ H1 _ I1 q1) fun us s2 ⟨xs,H2,I2,r2,q2⟩=>⟨x::xs,H2,I2,.cons r1 r2,q2⟩
def Zm (t:TA):TE:=fun σ H Q=>t σ H fun xs H1=>xs.length<=sizeLine∧∀ p,H1 p=none->Q (.ref p) (upd H1 p (.tup xs))
def aAb (t:TA):TE:=fun σ H Q=>t σ H fun xs H1=>xs.length<=sizeLine∧∀ p,H1 p=none->Q (.ref p) (upd H1 p (.lst xs))
theorem oR {x1}(h:PA X es t):PE X (.Tuple es x1 pos) (Zm t):=by
 intro pins s σ H Q I hq;refine wpAny_Tuple_spliced (thn (h pos pins s σ H _ I hq) fun us s1 ⟨xs,H1,I1,r,z,q⟩=>⟨by rw[<- r.length];exact z,?_⟩);have hf:H1 s1.heap.objs.size=none:=I1.hok.fresh (af _);refine⟨.ref s1.heap.objs.size,upd H1 s1.heap.objs.size (.tup xs),I1.laid (t':=s1.toks) (fun b u e=>Heap.get?_push_of_some _ e) (af _) ?_,rfl,q _ hf⟩;exact⟨z,us,r,⟨_,Heap.get?_push_size _ rfl,rfl,_,rfl⟩⟩
theorem cJ (h:PA X es t):PE X (.List es pos) (aAb t):=by
 intro pins s σ H Q I hq;refine wpAny_List_spliced (thn (h pos pins s σ H _ I hq) fun us s1 ⟨xs,H1,I1,r,z,q⟩=>⟨by rw[<- r.length];exact z,?_⟩);have hf:H1 s1.heap.objs.size=none:=I1.hok.fresh (af _);refine⟨.ref s1.heap.objs.size,upd H1 s1.heap.objs.size (.lst xs),I1.laid (t':=s1.toks) (fun b u e=>Heap.get?_push_of_some _ e) (af _) ?_,rfl,q _ hf⟩;exact⟨z,us,0,r,Heap.get?_push_size _ rfl⟩
end
abbrev Sp:=List V->Hp->VK->XK->Prop
abbrev CXT:=List Env->Hp->Shared->XK->Value->Shared->Prop
structure Eo (P:Program)(w:World)(K:ae)(mg:Str->Option Value)(base:Heap)(A:Around)(outer:List Env)(s:Shared)(H:Hp):Prop where
 frames:A.frames=some outer
 mod:Mod K mg base
 bs:∀ b o,base.get? b=some o->s.heap.get? b=some o∧H b=none
 bsz:base.objs.size<=s.heap.objs.size
 funs:s.heap.FunFrames base outer
 frf:∀ b∈frs outer,H b=none
 hok:HOk P w H s.heap
 bare:AllBare s.gens
def CE (outer:List Env)(P:Program)(w:World)(H:Hp)(s:Shared)(Q:VK)(u:Value)(s':Shared):Prop :=
 ∃ v H',s'.os=s.os∧AllBare s'.gens∧Un (frs outer) [] H H' s.heap s'.heap∧HOk P w H' s'.heap∧bE v u∧Q v H'
def CR (CX:CXT)(outer:List Env)(P:Program)(w:World)(H:Hp)(s:Shared)(Q:VK)(E:XK)(r:Result)(s':Shared):Prop :=
 match r with
 | .ok (.ret u)=>CE outer P w H s Q u s'
 | .ok _=>False
 | .error e=>CX outer H s E e s'
structure bW (P:Program)(w:World)(K:ae)(mg:Str->Option Value)(base:Heap)(CX:CXT)(k:Nat)(f:Addr)(fd:FuncData)(ps:List Str)(sp:Sp):Prop where
 len:∀ vs H Q E,sp vs H Q E->vs.length=ps.length
 run:∀ (A:Around) (outer:List Env) (s:Shared) (H:Hp) (args:Args) (us:List Value) (vs:List V) (Q:VK) (E:XK),fY k A->Eo P w K mg base A outer s H->BindsTo s fd args (ps.zip us)->bV vs us->sp vs H Q E ->
  codeAny (model P w) A (.call (.ref f) args) (CR CX outer P w H s Q E) s
theorem Eo.make {P:Program}{w:World}{K:ae}{mg:Str->Option Value}{base:Heap}{A:Around}{outer:List Env}{s:Shared}{H:Hp}(e:Eo P w K mg base A outer s H)(C:Addr)(us:List Value)(kw:List (Str×Value)) :
 Eo P w K mg base (A.under (.builtin "type.__call__" ⟨.ref C::us,kw⟩)) outer s H:=⟨by first | exact e.frames | (simpa [Around.under,Code.envs,Code.isFrame,pushEnvs] using e.frames),e.mod,e.bs,e.bsz,e.funs,e.frf,e.hok,e.bare⟩
section
variable {X:Cx}{pins:List (Addr×Obj)}{σ:St}{H:Hp}{s s':Shared}
theorem Inv.env0 (I:Inv X pins σ H s):Eo X.prog X.w X.K X.mg X.base X.A X.stack s H :=
 ⟨I.ok.frames,I.ok.mod,I.bs,av I.ok.bsz I.sz,I.stack,I.stkFree,I.hok,I.bare⟩
theorem Inv.after {Q:VK}{u:Value}(I:Inv X pins σ H s)(h:CE X.stack X.prog X.w H s Q u s'):EP X pins σ Q u s':=by
 obtain⟨v,H',os,bare,un,hok,r,q⟩:=h;obtain⟨hh,g,d,t,os'⟩:=s';obtain rfl:os'=s.os:=os;exact⟨v,H',I.call (h':=hh) (g':=g) (d':=d) (t':=t) (ch:=[]) un hok bare (fun b z=>absurd z (by simp)),r,q⟩
end
def Vi (sp:Sp)(dvs:List V)(E:XK)(t:TA):TE:=fun σ H Q=>t σ H fun vs H1=>sp (vs++dvs) H1 Q E
def Um (C:Addr)(sp:Sp)(dvs:List V)(E:XK)(t:TA):TE:=fun σ H Q=>t σ H fun vs H1=>∀ x dx,H1 x=none->H1 dx=none->dx≠x ->
 sp (.ref x::(vs++dvs)) (upd (upd H1 dx (.own x)) x (.ins C dx [])) (fun v H2=>v = .non∧Q (.ref x) H2) E
def kR (K:ae)(fd:FuncData)(ps:List Str)(ds:List Value):Prop :=
 ∀ (s:Shared) (us:List Value),K.In s.heap->(us++ds).length=ps.length->BindsTo s fd ⟨us,[]⟩ (ps.zip (us++ds))
theorem kR.all {K:ae}{fd:FuncData}{ps:List Str}(h:∀ us:List Value,us.length=ps.length->bindArgs fd ⟨us,[]⟩=pure (ps.zip us)):kR K fd ps []:=fun s us _ hl=>by
 rw[df] at hl ⊢;exact .of_eq (h us hl)
def kW (CX:CXT)(X:Cx)(E:XK):Prop:=∀ (pins:List (Addr×Obj)) (σ:St) (H:Hp) (s:Shared) (e:Value) (s':Shared),Inv X pins σ H s->CX X.stack H s E e s'->X.xe e s'
section
variable {X:Cx}{CX:CXT}{k:Nat}{f C:Addr}{fd:FuncData}{ps:List Str}{sp:Sp}{dvs:List V}{ds:List Value}{E:XK}{x m:Str}{p pos apos:Pos}{e o:Expr}{es:List Expr}{ta:TE}{t:TA}
theorem Xl {pins:List (Addr×Obj)}{σ:St}{H:Hp}{s:Shared}{Q:VK}{us:List Value}{vs:List V}(F:bW X.prog X.w X.K X.mg X.base CX k f fd ps sp)(hr:fY k X.A)(hb:kR X.K fd ps ds)(hd:bV dvs ds)(hx:kW CX X E)
  (I:Inv X pins σ H s) (r:bV vs us) (h:sp (vs++dvs) H Q E):wpAny (model X.prog X.w) X.A (call (.ref f) us) (EP X pins σ Q) X.xe s:=by
 have r2:bV (vs++dvs) (us++ds):=r.append hd;have hl:(us++ds).length=ps.length:=by rw[<- r2.length];exact F.len _ _ _ _ h
 refine wpAny_call (codeAny_mono (F.run X.A X.stack s H ⟨us,[]⟩ (us++ds) (vs++dvs) Q E hr I.env0 (hb s us I.kIn hl) r2 h) fun r s' hq=>?_)
 cases r with
 | error e=>exact hx pins σ H s e s' I hq
 | ok fl =>
  cases fl with
  | ret u=>exact I.after hq
  | next=>exact False.elim hq
  | brk=>exact False.elim hq
  | cont=>exact False.elim hq
theorem Rp (F:bW X.prog X.w X.K X.mg X.base CX k f fd ps sp)(hr:fY k X.A)(hg:Gl X x)(hm:X.mg x=some (.ref f))(hk:ff X.K (.ref f)=true)(hb:kR X.K fd ps ds)(hd:bV dvs ds)(hx:kW CX X E)
  (ha:PA X (e::es) t) (hdb:(x==("__debug__" : Str))=false:=by decide) (he:starEach (e::es) X.env=(false,eval e X.env)::starEach es X.env:=by rfl) (hpl:(backTo pos (starEach es X.env)).any (·.1)=false:=by rfl) :
  PE X (.Call (.Name x p) (e::es) [] pos) (Vi sp dvs E t):=by
 intro pins s σ H Q I h;refine wpAny_Call_Name_kw (rJ I hg hm ?_ hdb);refine qm (h₀:=X.base) I.ok.mod.kin hk (thn (ha pos pins s σ H _ I h) fun us s1 ⟨vs,H1,I1,r,q⟩=>⟨I1.kIn,?_⟩) he hpl;exact Xl F hr hb hd hx I1 r q
structure Mk (K:ae)(C f:Addr):Prop where
 makes:o6 K C=true
 init:eg K (.ref C) "__init__" = some (some (.ref f))
 fn:u4 K (.ref f)=true
 kp:ff K (.ref C)=true
theorem Re {pins:List (Addr×Obj)}{σ:St}{H:Hp}{s:Shared}{Q:VK}{us:List Value}{vs:List V}(M:Mk X.K C f)(F:bW X.prog X.w X.K X.mg X.base CX k f fd ps sp)(hr:fY (k+1) X.A)(hb:kR X.K fd ps ds)(hd:bV dvs ds)
  (hx:kW CX X E) (I:Inv X pins σ H s) (r:bV vs us)
  (h:∀ x dx,H x=none->H dx=none->dx≠x->sp (.ref x::(vs++dvs)) (upd (upd H dx (.own x)) x (.ins C dx [])) (fun v H2=>v = .non∧Q (.ref x) H2) E) :
  wpAny (model X.prog X.w) X.A (call (.ref C) us) (EP X pins σ Q) X.xe s:=by
 have hq:=h (s.heap.objs.size+1) s.heap.objs.size (I.hok.fresh (g7 _)) (I.hok.fresh (af _)) (bb (gj _));have I2:=Inv.made (C:=C) I;have r2:bV (V.ref (s.heap.objs.size+1)::(vs++dvs)) (Value.ref (s.heap.objs.size+1)::(us++ds)):=.cons rfl (r.append hd);have hl:(Value.ref (s.heap.objs.size+1)::us++ds).length=ps.length:=by
  have e:=r2.length;rw[F.len _ _ _ _ hq] at e;exact e.symm
 refine wpAny_call (On (f:=f) I.kIn M.makes M.init (beq_iff_eq.mp M.fn) (codeAny_mono (F.run _ X.stack _ _ ⟨Value.ref (s.heap.objs.size+1)::us,[]⟩ (Value.ref (s.heap.objs.size+1)::(us++ds)) _ _ E (hr.make C us [])
  (I2.env0.make C us []) (hb _ (Value.ref (s.heap.objs.size+1)::us) I2.kIn hl) r2 hq) fun r s' hq'=>?_))
 cases r with
 | error e=>exact hx pins σ _ _ e s' I2 hq'
 | ok fl =>
  cases fl with
  | ret u =>
   obtain⟨v,H',I3,rv,ev,q3⟩:=I2.after hq';subst ev;exact⟨rv,⟨V.ref (s.heap.objs.size+1),H',I3,rfl,q3⟩⟩
  | next=>exact False.elim hq'
  | brk=>exact False.elim hq'
  | cont=>exact False.elim hq'
theorem Ti (M:Mk X.K C f)(F:bW X.prog X.w X.K X.mg X.base CX k f fd ps sp)(hr:fY (k+1) X.A)(hg:Gl X x)(hm:X.mg x=some (.ref C))(hb:kR X.K fd ps ds)(hd:bV dvs ds)(hx:kW CX X E)
  (ha:PA X (e::es) t) (hdb:(x==("__debug__" : Str))=false:=by decide) (he:starEach (e::es) X.env=(false,eval e X.env)::starEach es X.env:=by rfl) (hpl:(backTo pos (starEach es X.env)).any (·.1)=false:=by rfl) :
  PE X (.Call (.Name x p) (e::es) [] pos) (Um C sp dvs E t):=by
 intro pins s σ H Q I h;refine wpAny_Call_Name_kw (rJ I hg hm ?_ hdb);refine qm (h₀:=X.base) I.ok.mod.kin M.kp (thn (ha pos pins s σ H _ I h) fun us s1 ⟨vs,H1,I1,r,q⟩=>⟨I1.kIn,?_⟩) he hpl;exact Re M F hr hb hd hx I1 r q
end
section
variable {X:Cx}{CX:CXT}{k:Nat}{f C:Addr}{fd:FuncData}{ps ks:List Str}{sp:Sp}{E:XK}{x m:Str}{p pos apos kpos:Pos}{e o:Expr}{es:List Expr}{kws:List Keyword}{te ta:TE}{t tk:TA}{nm:Option Str}
variable {g:List Value->List Value->List Value}{gV:List V->List V->List V}
end
structure aU (N P:List Str)(sc:Scope):Prop where
 kind:sc.kind = .function
 co:sc.isCoroutine=false
 gen:sc.isGenerator=false
 nd:N.Nodup
 pre:N.take P.length=P
 par:∀ x∈P,sc.names.lookup x=some .local∨sc.names.lookup x=some .cell
 nofree:∀ y∈sc.names,y.2≠.free
theorem wA {kindOf:Str->Option NameKind}{x:Str}:∀ {binds:List (Str×Value)} {m:Str->Option Value},(∀ v,(x,v)∉binds)->bindL kindOf binds m x=m x
 | [],_,_=>rfl
 | (n,v)::r,m,h=>by
  unfold bindL;rw[wA fun w hw=>h w (aj _ hw)];split
  ·have:x≠n:=by rintro rfl;exact h v al
   simp[this]
  ·rfl
theorem wX {kindOf:Str->Option NameKind}{x:Str}:∀ {binds:List (Str×Value)} {m:Str->Option Value},(∀ v,(x,v)∉binds)->bindC kindOf binds m x=m x
 | [],_,_=>rfl
 | (n,v)::r,m,h=>by
  unfold bindC;rw[wX fun w hw=>h w (aj _ hw)];split
  ·rfl
  ·have:x≠n:=by rintro rfl;exact h v al
   simp[this]
theorem vZ {kindOf:Str->Option NameKind}{x:Str}{v:Value}:∀ {P:List Str} {vs:List Value} {i:Nat} {m:Str->Option Value},P.Nodup->P[i]?=some x->vs[i]?=some v->kindOf x=some .local ->
  bindL kindOf (P.zip vs) m x=some v
 | [],_,_,_,_,h,_,_=>by simp at h
 | _::_,[],_,_,_,_,h,_=>by simp at h
 | p::P,w::vs,0,m,nd,h1,h2,hk=>by
  simp at h1 h2;subst h1;subst h2;show bindL kindOf ((p,w)::P.zip vs) m p=_;unfold bindL;rw[wA fun v hv=>(bv.mp nd).1 (o7 hv).1,if_pos hk];simp
 | p::P,w::vs,i+1,m,nd,h1,h2,hk=>by
  show bindL kindOf ((p,w)::P.zip vs) m x=_;unfold bindL;exact vZ (i:=i) (bv.mp nd).2 (by simpa using h1) (by simpa using h2) hk
theorem wT {kindOf:Str->Option NameKind}{x:Str}{v:Value}:∀ {P:List Str} {vs:List Value} {i:Nat} {m:Str->Option Value},P.Nodup->P[i]?=some x->vs[i]?=some v->kindOf x≠some .local ->
  bindC kindOf (P.zip vs) m x=some v
 | [],_,_,_,_,h,_,_=>by simp at h
 | _::_,[],_,_,_,_,h,_=>by simp at h
 | p::P,w::vs,0,m,nd,h1,h2,hk=>by
  simp at h1 h2;subst h1;subst h2;show bindC kindOf ((p,w)::P.zip vs) m p=_;unfold bindC;rw[wX fun v hv=>(bv.mp nd).1 (o7 hv).1,if_neg hk];simp
 | p::P,w::vs,i+1,m,nd,h1,h2,hk=>by
  show bindC kindOf ((p,w)::P.zip vs) m x=_;unfold bindC;exact wT (i:=i) (bv.mp nd).2 (by simpa using h1) (by simpa using h2) hk
def nQ (N:List Str)(vs:List V):St:=vs.map some++mq (N.length-vs.length) none
def qS (CX:CXT)(P:Program)(w:World)(K:ae)(mg:Str->Option Value)(base:Heap)(N:List Str)(qual:Str)(scope:Scope)(f:Addr)(cd:Value)(A:Around)(outer:List Env)(s:Shared)(H:Hp)(E:XK):Cx where
 prog:=P
 w:=w
 K:=K
 mg:=mg
 base:=base
 A:=A.deeper (envOfC qual scope s.heap.objs.size f cd)
 N:=N
 s₀:=s
 H₀:=H
 env:=envOfC qual scope s.heap.objs.size f cd
 outer:=outer
 stack:=envOfC qual scope s.heap.objs.size f cd::outer
 ex:=[]
 calm:=true
 fn:=fun _=>true
 pn:=[]
 xe:=fun e s'=>wpAny (model P w) (A.deeper (envOfC qual scope s.heap.objs.size f cd)) (leaving (envOfC qual scope s.heap.objs.size f cd) e) (fun _ s''=>CX outer H s E e s'') (fun e' s''=>CX outer H s E e' s'') s'
theorem Bf {sc:Scope}{n:Nat}{x:Str}(h:sc.names.lookup x=some .cell):∃ c,(cellsFrom n sc.names []).lookup x=some c:=by
 have q:=om sc.names n [] (.inl h);exact Option.isSome_iff_exists.mp q
theorem Ld {CX:CXT}{P:Program}{w:World}{K:ae}{mg:Str->Option Value}{base:Heap}{N ps:List Str}{qual:Str}{scope:Scope}{f:Addr}{cd:Value}{A:Around}{outer:List Env}{s s1:Shared}{H:Hp}{E:XK}{us:List Value}{vs:List V}
  (S:aU N ps scope) (hd:A.handled=none) (e0:Eo P w K mg base A outer s H) (hl:vs.length=ps.length) (r:bV vs us)
  (x:InCallC s s.heap.objs.size (bindL (envOfC qual scope s.heap.objs.size f cd).kindOf (ps.zip us) fun _=>none) (cellsFrom (s.heap.objs.size+1) scope.names []) (bindC (envOfC qual scope s.heap.objs.size f cd).kindOf (ps.zip us) fun _=>none) s1) :
  Inv (qS CX P w K mg base N qual scope f cd A outer s H E) [] (nQ N vs) H s1:=by
 have hpl:ps.length<=N.length:=by have:=congrArg gi S.pre;rw[a6] at this;omega
 obtain⟨h1,tk,rfl,hk⟩:=x.done;have noA:∀ b:Addr,b∉(qS CX P w K mg base N qual scope f cd A outer s H E).ex:=fun b z=>absurd (show b∈([]:List Addr) from z) (by simp)
 refine⟨⟨e0.mod,S.kind,rfl,rfl,af _,fun y z c h1 h2=>?_,fun y hy=>?_,fun y c _ h=>?_,fun _=>hd,Around.frames_deeper e0.frames,.inr ⟨rfl,rfl⟩,fun b z=>absurd z (noA b),e0.bs,e0.bsz,fun b _ _=>noA b,fun b z=>absurd z (noA b),e0.funs,e0.frf⟩,
  rfl,e0.bare,Un.kept hk,⟨_,x.toInCall.ns,fun i y v h1 h2 h3=>?_⟩,fun y c h=>⟨_,x.cell y c h⟩,e0.hok.fresh (af _),fun y c h=>?_,fun p hp=>absurd (show p∈([]:List (Addr×Obj)) from hp) (by simp),e0.hok.kept hk,?_⟩
 ·exact name_of_addr x.apart (gy h1) (gy h2)
 ·have hy:scope.names.lookup y=some .cell∨scope.names.lookup y=some .free:=hy
  rcases hy with hy | hy
  ·exact Bf hy
  ·exact absurd rfl (S.nofree _ (gy hy))
 ·exact j4 (x.above y c (gy h))
 ·have hi:i<vs.length:=by
   unfold nQ at h2;by_cases hi:i<vs.length
   ·exact hi
   ·rw[ia (by simpa using hi)] at h2
    rw[List.getElem?_replicate] at h2;split at h2 <;> cases h2
  have ha:vs[i]?=some v:=by
   unfold nQ at h2;rw[ig (by simpa using hi),ah] at h2
   cases e:vs[i]? with
   | none=>rw[e] at h2;cases h2
   | some a=>rw[e] at h2;cases h2;rfl
  obtain⟨u,hu,rv⟩:=r.get ha;have hp:ps[i]?=some y:=by
   rw[<- S.pre,d7 (by omega)];exact h1
  have ndP:ps.Nodup:=by rw[<- S.pre];exact S.nd.sublist (gc _ _)
  refine⟨u,rv,?_⟩;rcases S.par y (au hp) with k | k
  ·exact .inl ⟨k,vZ ndP hp hu k⟩
  ·obtain⟨c,e⟩:=Bf (n:=s.heap.objs.size+1) k
   refine .inr ⟨.inl k,c,e,?_⟩;have q:=x.cell y c e;rw[wT ndP hp hu (by show scope.names.lookup y≠_;rw[k];decide)] at q;exact q
 ·exact e0.hok.fresh (j4 (x.above y c (gy h)))
 ·unfold nQ
  show _=N.length;rw[ak,aR,List.length_replicate];omega
theorem Us {CX:CXT}{P:Program}{w:World}{K:ae}{mg:Str->Option Value}{base:Heap}{k:Nat}{f:Addr}{name qual:Str}{params:Arguments}{body:List Stmt}{scope:Scope}{dV kV doc pm cdv ct oc:Value}{an od:Option Addr}
  {osl:Array (Option Value)} {N ps:List Str} {sp:Sp} (lk:K.lookup f=some ⟨oc,od,.func (gn name qual params body scope dV kV doc pm an cdv ct),osl⟩) (hcd:ja K cdv qual=true) (S:aU N ps scope)
  (len:∀ vs H Q E,sp vs H Q E->vs.length=ps.length)
  (hbody:∀ (A:Around) (outer:List Env) (s:Shared) (H:Hp) (vs:List V) (Q:VK) (E:XK),fY k (A.deeper (envOfC qual scope s.heap.objs.size f cdv))->sp vs H Q E ->
   ∃ t,PSs (qS CX P w K mg base N qual scope f cdv A outer s H E) body t∧t { nx:=fun _ H'=>Q .non H',rt:=Q } (nQ N vs) H) :
  bW P w K mg base CX (k+1) f (gn name qual params body scope dV kV doc pm an cdv ct) ps sp:=by
 refine⟨len,fun A outer s H args us vs Q E hr e0 hb r hsp=>?_⟩;have hl:=len _ _ _ _ hsp;have KX:K.In s.heap:=e0.mod.kin.keeps fun b o e=>(e0.bs b o e).1
 have lim:s.heap.NoLimit:=e0.mod.nolimit.keeps fun b o e=>(e0.bs b o e).1
 have hkind:∀ y∈ps.zip us,scope.names.lookup y.1=some .local∨(scope.names.lookup y.1=some .cell∧((cellsFrom (s.heap.objs.size+1) scope.names []).lookup y.1).isSome=true):=fun ⟨n,v⟩ hy=>by
  rcases S.par n (o7 hy).1 with q | q
  ·exact .inl q
  ·exact .inr ⟨q,om _ _ _ (.inl q)⟩
 refine codeAny_call_function hr.depth (KX _ _ lk) rfl S.co S.gen rfl (PySem.W.codeRec_of KX hcd) (hb _ _ _ _ ?_);refine wpAny_newFunctionEnv_cells S.kind hkind fun env he s1 x=>?_
 subst he;refine⟨lim.keeps x.toInCall.keep,codeAny_func ?_⟩;obtain⟨t,ht,hq⟩:=hbody A outer s H vs Q E (hr.deeper _) hsp;have I:Inv (qS CX P w K mg base N qual scope f cdv A outer s H E) [] (nQ N vs) H s1:=Ld S hr.hd e0 hl r x;refine wpAny_mono (ht [] s1 (nQ N vs) H _ I hq) (fun fl s' hs=>?_) fun e s' hs=>hs
 have fin:∀ {σ':St} {H':Hp} {v:V} {u:Value},Inv (qS CX P w K mg base N qual scope f cdv A outer s H E) [] σ' H' s'->bE v u->Q v H'->CE outer P w H s Q u s' :=
  fun {σ' H' v u} J rv q=>⟨v,H',J.os,J.bare,J.base,J.hok,rv,q⟩
 cases fl with
 | ret u =>
  obtain⟨v,σ',H',J,rv,q⟩:=hs;exact fin J rv q
 | next =>
  obtain⟨σ',H',J,q⟩:=hs;exact fin (v:=V.non) (u:=Value.none) J rfl q
 | brk =>
  obtain⟨_,_,_,q⟩:=hs;exact False.elim q
 | cont =>
  obtain⟨_,_,_,q⟩:=hs;exact False.elim q
section
variable {X:Cx}{x:Str}{p pos:Pos}{e:Expr}{es:List Expr}{t:TA}{id T:String}{r:List V->Hp->VK->Prop}
def tCB (r:List V->Hp->VK->Prop)(t:TA):TE:=fun σ H Q=>t σ H fun vs H1=>r vs H1 Q
theorem aL (hc:eA X (.builtin id) r)(hg:Gl X x)(hm:X.mg x=none)(hv:bootBuiltins x=some (.builtin id))(ha:PA X (e::es) t)(hn:x ≠ "__name__" := by decide)(hdb:(x==("__debug__" : Str))=false:=by decide)
  (he:starEach (e::es) X.env=(false,eval e X.env)::starEach es X.env:=by rfl) (hpl:(backTo pos (starEach es X.env)).any (·.1)=false:=by rfl):PE X (.Call (.Name x p) (e::es) [] pos) (tCB r t):=by
 intro pins s σ H Q I h;refine wpAny_Call_Name_kw (mO I hg hm hv ?_ hn hdb);exact PyProof.Rows.callWith_builtin1 (thn (ha pos pins s σ H _ I h) fun us s1 ⟨vs,H1,I1,r1,q1⟩=>hc pins s1 σ H1 vs us Q I1 r1 q1) he hpl
theorem dU (hc:eA X (.type T) r)(hg:Gl X x)(hm:X.mg x=none)(hv:bootBuiltins x=some (.type T))(ha:PA X (e::es) t)(hn:x ≠ "__name__" := by decide)(hdb:(x==("__debug__" : Str))=false:=by decide)
  (he:starEach (e::es) X.env=(false,eval e X.env)::starEach es X.env:=by rfl) (hpl:(backTo pos (starEach es X.env)).any (·.1)=false:=by rfl):PE X (.Call (.Name x p) (e::es) [] pos) (tCB r t):=by
 intro pins s σ H Q I h;refine wpAny_Call_Name_kw (mO I hg hm hv ?_ hn hdb);exact ga (thn (ha pos pins s σ H _ I h) fun us s1 ⟨vs,H1,I1,r1,q1⟩=>hc pins s1 σ H1 vs us Q I1 r1 q1) he hpl
end
end L2
namespace HT
open PySem PyProof.Rows
section
open PySem.SeqAt
open PySem.AutoSeq1 (wpAny_loadPart')
open PySem.MeetsSeq PySem.MeetsSeq2 PySem.MeetsSeq3
end
section
variable {prog:Program}{w:World}{A:Around}{E:Value->Shared->Prop}{s:Shared}
def sIx (n d:Nat):Option Int->Nat
 | none=>d
 | some v=>if v<0 then (v+(n:Int)).toNat else min v.toNat n
theorem eO (n d:Nat):sIx n d none=d:=rfl
theorem eF (n d k:Nat):sIx n d (some (k:Int))=min k n:=by
 show (if (k:Int)<0 then ((k:Int)+(n:Int)).toNat else min (k:Int).toNat n)=min k n;rw[if_neg (by omega),cu]
theorem uG (n d:Nat)(hd:d<=n)(o:Option Int):sIx n d o<=n:=by
 cases o with
 | none=>exact hd
 | some v =>
  show (if v<0 then (v+(n:Int)).toNat else min v.toNat n)<=n;by_cases hv:v<0
  ·rw[if_pos hv];omega
  ·rw[if_neg hv];exact ny _ _
theorem Ie (v:Int)(n d:Nat):(if v<0 then max (v+(n:Int)) 0 else min v (n:Int))=((sIx n d (some v):Nat):Int):=by
 show (if v<0 then max (v+(n:Int)) 0 else min v (n:Int))=(((if v<0 then (v+(n:Int)).toNat else min v.toNat n):Nat):Int);by_cases hv:v<0
 ·simp only [if_pos hv];omega
 ·simp only [if_neg hv];omega
theorem Es (lo hi:Option Int)(n:Nat):Builtin.Slice.sliceAdjust lo hi 1 (n:Int)=(((sIx n 0 lo:Nat):Int),((sIx n n hi:Nat):Int)):=by
 have h1:¬ ((1:Int)<0):=by omega
 unfold Builtin.Slice.sliceAdjust;simp only [h1,if_false];refine Prod.ext ?_ ?_
 ·cases lo with
  | none=>rfl
  | some v=>exact Ie v n 0
 ·cases hi with
  | none=>rfl
  | some v=>exact Ie v n n
theorem Dq (i j:Nat):Builtin.Slice.slicePlaces (i:Int) (j:Int) 1=j-i:=by
 unfold Builtin.Slice.slicePlaces;have h1:(1:Int)>0:=by omega
 simp only [h1,if_true,Int.ediv_one];split <;> omega
theorem uU {v:Value}{o:Option Int}{Q:Option Int->Shared->Prop}(p:IsPart v o)(h:Q o s):wpAny (model prog w) A (Builtin.Slice.slicePartIndex v) Q E s:=by
 cases p with
 | none=>exact slicePart_none h
 | int i t=>exact slicePart_int h
theorem oC {sl:Addr}{vl vu:Value}{lo hi:Option Int}{n:Nat}{Q:Int×Int×Nat->Shared->Prop}(hs:s.heap.IsSliceOf sl vl vu .none)(pl:IsPart vl lo)(pu:IsPart vu hi)
  (h:Q (((sIx n 0 lo:Nat):Int),1,sIx n n hi-sIx n 0 lo) s):wpAny (model prog w) A (Builtin.Slice.sliceApplied (.ref sl) (pure (n:Int))) Q E s:=by
 obtain⟨os,hos,hcs,hds⟩:=id hs;unfold Builtin.Slice.sliceApplied Builtin.Slice.sliceFields;refine wpAny_bind (wpAny_bind (wpAny_field hos hds (x:=vl) rfl (wpAny_bind (wpAny_field hos hds (x:=vu) rfl (wpAny_bind (wpAny_field hos hds (x:=.none) rfl (wpAny_pure ?_)))))));refine wpAny_bind (slicePart_none ?_);show wpAny _ _ (if ((1:Int)==0)=true then _ else _) _ _ s;rw[if_neg (by decide)];refine wpAny_bind (uU pl (wpAny_bind (uU pu (wpAny_bind (wpAny_pure ?_)))));show wpAny _ _ (match Builtin.Slice.sliceAdjust lo hi 1 (n:Int) with | (lo,hi)=>pure (lo,(1:Int),Builtin.Slice.slicePlaces lo hi 1)) _ _ s;rw[Es lo hi n];show wpAny _ _ (pure (((sIx n 0 lo:Nat):Int),(1:Int),Builtin.Slice.slicePlaces ((sIx n 0 lo:Nat):Int) ((sIx n n hi:Nat):Int) 1)) _ _ s;rw[Dq];exact wpAny_pure h
theorem Pj (xs:Array Value)(i k:Nat):((cp k).filterMap fun (m:Nat)=>xs[((i:Int)+(m:Int)*1).toNat]?).toArray=((xs.toList.drop i).take k).toArray:=by
 have e:(fun (m:Nat)=>xs[((i:Int)+(m:Int)*1).toNat]?)=fun m=>xs[i+m]?:=by
  funext m
  have:((i:Int)+(m:Int)*1).toNat=i+m:=by omega
  rw[this]
 rw[e]
 have:=pick_run xs i k
 rw[List.filterMap_map] at this;have e2:((fun x=>xs[x]?)∘fun x=>i+x)=fun m=>xs[i+m]?:=rfl
 rw[e2] at this;rw[this]
theorem mY {t sl:Addr}{items:Array Value}{vl vu:Value}{lo hi:Option Int}{Q:Value->Shared->Prop}(ht:IsTup s.heap t items)(hs:s.heap.IsSliceOf sl vl vu .none)(pl:IsPart vl lo)(pu:IsPart vu hi)
  (hw:¬ (sIx items.size 0 lo=0∧sIx items.size items.size hi=items.size))
  (h:Q (.ref s.heap.objs.size) { s with heap:=s.heap.push { cls:=.type "tuple",data:=.seq ((items.toList.drop (sIx items.size 0 lo)).take (sIx items.size items.size hi-sIx items.size 0 lo)).toArray } })
  (hsz:items.size<=sizeLine):wpAny (model prog w) A (getItem (.ref t) (.ref sl)) Q E s:=by
 have htake:sizeOk (.seq ((items.toList.drop (sIx items.size 0 lo)).take (sIx items.size items.size hi-sIx items.size 0 lo)).toArray):=by
  show ((items.toList.drop (sIx items.size 0 lo)).take (sIx items.size items.size hi-sIx items.size 0 lo)).toArray.size<=sizeLine;rw[az,a6,a9,bt];omega
 have hj:sIx items.size items.size hi<=items.size:=uG _ _ (af _) hi;obtain⟨os,hos,hcs,hds⟩:=id hs;have hTs:s.TypeIs (.ref sl) "slice" := ⟨os,hos,hcs⟩
 unfold getItem
 try with_reducible refine wpAny_holding ?_
 first | refine wpAny_bind (wpAny_pure ?_) | skip
 refine wpAny_bind (wpAny_sequenceKey ht.typeIs (by decide) ?_);refine wpAny_bind (wpAny_callSpecial?_slot (name:=Str.ofString "__getitem__") ht.typeIs i6
  (wpAny_call_entry i6 ht.typeIs entry_tuple_getitem ?_ (args_tuple_getitem _ _)))
 show wpAny _ _ (Builtin.Tuple.tupleItemsOf (.ref t) >>= _) _ _ s;refine wpAny_bind (tupleItemsOf_ ht ?_);refine wpAny_bind (wpAny_typeOf hTs ?_);rw[if_pos (by decide)];refine wpAny_bind (oC hs pl pu ?_);have hno:¬ ((((sIx items.size 0 lo:Nat):Int)==0&&(1:Int)==1&&(sIx items.size items.size hi-sIx items.size 0 lo)==items.size)=true):=by
  intro q;rw[c7,c7] at q;have q1:((sIx items.size 0 lo:Nat):Int)=0:=eq_of_beq q.1.1;have q2:sIx items.size items.size hi-sIx items.size 0 lo=items.size:=eq_of_beq q.2;exact hw ⟨by omega,by omega⟩
 show wpAny _ _ (if (((sIx items.size 0 lo:Nat):Int)==0&&(1:Int)==1&&(sIx items.size items.size hi-sIx items.size 0 lo)==items.size)=true then _ else _) _ _ s;rw[if_neg hno,Pj]
 first
  | exact wpAny_bind (m:=Builtin.Tuple.tupleExact _) (wpAny_newObj_type (wpAny_pure ⟨_,rfl,wpAny_pure h⟩) htake)
  | exact wpAny_bind (m:=Builtin.Tuple.tupleExact _) (wpAny_newObj_type (wpAny_bind (wpAny_pure (wpAny_pure ⟨_,rfl,wpAny_pure h⟩))) htake)
  | exact wpAny_bind (wpAny_bind (m:=Builtin.Tuple.tupleExact _) (wpAny_newObj_type (wpAny_pure (wpAny_pure ⟨_,rfl,wpAny_pure h⟩)) htake))
  | exact wpAny_bind (wpAny_bind (m:=Builtin.Tuple.tupleExact _) (wpAny_newObj_type (wpAny_pure ⟨_,rfl,wpAny_pure h⟩) htake))
end
end HT
namespace L2
open PySem PySem.Spec PyProof.Rows
abbrev TO:=St->Hp->(Option Int->Hp->Prop)->Prop
def PO (X:Cx)(e:Option Expr)(t:TO):Prop :=
 ∀ (pins:List (Addr×Obj)) (s:Shared) (σ:St) (H:Hp) (Q:Option Int->Hp->Prop),Inv X pins σ H s->t σ H Q ->
  wpAny (model X.prog X.w) X.A (evalPart e X.env) (fun u s'=>∃ o H',Inv X pins σ H' s'∧IsPart u o∧Q o H') X.xe s
def Sf:TO:=fun _ H Q=>Q none H
def Yz (t:TE):TO:=fun σ H Q=>t σ H fun x H1=>∃ i,x = .int i∧Q (some i) H1
theorem Ew {ns:List Int}:∀ {us:List Value},bV (ns.map V.int) us->IntsAre us ns:=by
 induction ns with
 | nil=>intro us r;rw[ip] at r;cases r;exact .nil
 | cons n ns ih =>
  intro us r;rw[ap] at r
  cases r with
  | cons r1 r2 =>
   obtain⟨t,e⟩:=r1;subst e;exact .cons n t (ih r2)
section
variable {X:Cx}{e:Expr}{te:TE}{lo hi:Option Expr}{tl th:TO}{pos p2:Pos}
theorem bN:PO X none Sf:=by
 intro pins s σ H Q I h;rw[evalPart_none];exact wpAny_pure ⟨none,H,I,.none,h⟩
theorem bJ (h:PE X e te):PO X (some e) (Yz te):=by
 intro pins s σ H Q I hw;rw[evalPart_some];refine thn (h pins s σ H _ I hw) fun u s1 ⟨x,H1,I1,r1,q1⟩=>?_
 obtain⟨i,rfl,q⟩:=q1;obtain⟨t,rfl⟩:=r1;exact⟨some i,H1,I1,.int i t,q⟩
def SlR (X:Cx)(r:V->Option Int->Option Int->Hp->VK->Prop):Prop :=
 ∀ (pins:List (Addr×Obj)) (s:Shared) (σ:St) (H:Hp) (x:V) (v vl vu:Value) (lo hi:Option Int) (sl:Addr) (Q:VK),Inv X pins σ H s->bE x v->s.heap.IsSliceOf sl vl vu .none->IsPart vl lo->IsPart vu hi->r x lo hi H Q ->
  ∃ T id,typeLookup (.type T) "__getitem__" = pure (some (.builtin id))∧s.TypeIs v T∧wpAny (model X.prog X.w) X.A (getItem v (.ref sl)) (EP X pins σ Q) X.xe s
def tSl (r:V->Option Int->Option Int->Hp->VK->Prop)(te:TE)(tl th:TO):TE:=fun σ H Q=>te σ H fun x H1=>tl σ H1 fun l H2=>th σ H2 fun u H3=>r x l u H3 Q
theorem bA {r:V->Option Int->Option Int->Hp->VK->Prop}(hr:SlR X r)(he:PE X e te)(hl:PO X lo tl)(hu:PO X hi th):PE X (.Subscript e (.Slice lo hi none p2) pos) (tSl r te tl th):=by
 intro pins s σ H Q I h;refine Subscript_ (thn (he pins s σ H _ I h) fun v s1 ⟨x,H1,I1,r1,q1⟩=>?_);refine wpAny_Slice (thn (hl pins s1 σ H1 _ I1 q1) fun vl s2 ⟨l,H2,I2,pl,q2⟩=>thn (hu pins s2 σ H2 _ I2 q2) fun vu s3 ⟨u,H3,I3,pu,q3⟩=>?_);rw[evalPart_none];refine wpAny_pure ?_;have I4:Inv X pins σ H3 { s3 with heap:=s3.heap.push { cls:=.type "slice",data:=.fields #[vl,vu,.none] } }:=I3.kept (t':=s3.toks) fun b ob q=>Heap.get?_push_of_some _ q
 obtain⟨T,id,hT,ht,hg⟩:=hr pins { s3 with heap:=s3.heap.push { cls:=.type "slice",data:=.fields #[vl,vu,.none] } } σ H3 x v vl vu l u s3.heap.objs.size Q I4 r1 (Heap.IsSliceOf.new ..) pl pu q3
 show wpAny (model X.prog X.w) X.A (subscriptTail e (.Slice lo hi none p2) v (.ref s3.heap.objs.size)) (EP X pins σ Q) X.xe { s3 with heap:=s3.heap.push { cls:=.type "slice",data:=.fields #[vl,vu,.none] } }
 exact tail_any (ops:=[.ref s3.heap.objs.size,v]) ht hT hg (by with_unfolding_all rfl)
def dE (xs:List V)(lo hi:Option Int):List V:=(xs.drop (HT.sIx xs.length 0 lo)).take (HT.sIx xs.length xs.length hi-HT.sIx xs.length 0 lo)
theorem qE (xs:List V)(lo hi:Option Int):(dE xs lo hi).length<=xs.length:=by
 unfold dE;rw[a6,a9];omega
def aAX (K:ae):V->Option Int->Option Int->Hp->VK->Prop:=fun x lo hi H Q=>∃ a xs,x = .ref a∧SqT K H a xs ∧
 ¬ (HT.sIx xs.length 0 lo=0∧HT.sIx xs.length xs.length hi=xs.length)∧∀ p,H p=none->Q (.ref p) (upd H p (.tup (dE xs lo hi)))
theorem Pm:SlR X (aAX X.K):=by
 intro pins s σ H x v vl vu lo hi sl Q I rx hs pl pu h;obtain⟨a,xs,rfl,hx,hw,q⟩:=h;cases rx;obtain⟨its,r,ht,hz⟩:=I.tuple hx;have hlen:its.toArray.size=xs.length:=by rw[az];exact r.length.symm
 refine⟨"tuple",_,i6.lookup,ht.typeIs,?_⟩
 refine HT.mY ht hs pl pu (by rw[hlen];exact hw) ?_ (by rw[hlen];exact hz);rw[hlen];refine⟨.ref s.heap.objs.size,_,I.laid (t':=s.toks) (o:=.tup (dE xs lo hi)) (fun b ob q=>Heap.get?_push_of_some _ q) (af _) ?_,rfl,q _ (I.hok.fresh (af _))⟩;exact⟨av (qE xs lo hi) hz,_,(r.drop (HT.sIx xs.length 0 lo)).take (HT.sIx xs.length xs.length hi-HT.sIx xs.length 0 lo),IsTup.new _ _⟩
end
def ixN (n:Nat)(i:Int):Option Nat:=if 0<=i then (if i<n then some i.toNat else none) else if -(n:Int)<=i then some (i+n).toNat else none
def atI {α:Type}(xs:List α)(i:Int):Option α:=(ixN xs.length i).bind fun j=>xs[j]?
theorem Ud {n:Nat}{i:Int}{j:Nat}(h:ixN n i=some j):seqIndex? i n=some j∧j<n∧-(n:Int)<=i∧i<n:=by
 unfold ixN at h;by_cases h0:0<=i
 ·rw[if_pos h0] at h
  by_cases h1:i<n
  ·rw[if_pos h1] at h
   have e:i.toNat=j:=a8 h;exact⟨by rw[seqIndex_of h0 h1,e],by omega,by omega,h1⟩
  ·rw[if_neg h1] at h;cases h
 ·rw[if_neg h0] at h
  by_cases h1 : -(n:Int)<=i
  ·rw[if_pos h1] at h
   have e:(i+n).toNat=j:=a8 h;exact⟨by rw[seqIndex_neg (by omega) h1,e],by omega,h1,by omega⟩
  ·rw[if_neg h1] at h;cases h
theorem zJ {α:Type}{xs:List α}{i:Int}{v:α}(h:atI xs i=some v):∃ j,seqIndex? i xs.length=some j∧xs[j]?=some v∧j<xs.length∧-(xs.length:Int)<=i∧i<xs.length:=by
 unfold atI at h
 cases e:ixN xs.length i with
 | none=>rw[e] at h;cases h
 | some j =>
  rw[e] at h;obtain⟨h1,h2,h3,h4⟩:=Ud e;exact⟨j,h1,h,h2,h3,h4⟩
theorem bO {α:Type}{xs:List α}{j:Nat}{v:α}(h:xs[j]?=some v):atI xs (j:Int)=some v:=by
 have hj:j<xs.length:=(aw.mp h).1;have e:ixN xs.length (j:Int)=some j:=by
  unfold ixN;rw[if_pos (by omega),if_pos (by omega)];simp
 unfold atI;rw[e];exact h
def Rh (b:Expr):Prop:=∀ o i,subscripted b false o i=operate [o,i] (getItem o i)
def IxR (X:Cx)(r:R2):Prop :=
 ∀ (value slice:Expr) (pins:List (Addr×Obj)) (s:Shared) (σ:St) (H:Hp) (x y:V) (v u:Value) (Q:VK),Inv X pins σ H s->bE x v->bE y u->r x y H Q ->
  subscripted slice false v u=operate [v,u] (getItem v u)->wpAny (model X.prog X.w) X.A (subscriptTail value slice v u) (EP X pins σ Q) X.xe s
def MtR (X:Cx)(id:String)(r:V->List V->Hp->VK->Prop):Prop :=
 ∀ (pins:List (Addr×Obj)) (s:Shared) (σ:St) (H:Hp) (x:V) (xs:List V) (v:Value) (us:List Value) (Q:VK),Inv X pins σ H s->bE x v->bV xs us->r x xs H Q ->
  wpAny (model X.prog X.w) X.A (call (.builtin id) (v::us)) (EP X pins σ Q) X.xe s
section
variable {X:Cx}{a b:Expr}{ta tb:TE}{pos:Pos}
theorem cL {r:R2}(hr:IxR X r)(ha:PE X a ta)(hb:PE X b tb)(hs:Rh b):PE X (.Subscript a b pos) (tOp r ta tb):=by
 intro pins s σ H Q I h;exact Subscript_ (Wm ha hb I h fun v u s2 x y H2 I2 rx ry q=>hr a b pins s2 σ H2 x y v u Q I2 rx ry q (hs _ _))
def Zk (K:ae):R2:=fun x y H Q=>∃ p xs i v,x = .ref p∧y = .int i∧SqL K H p xs∧atI xs i=some v∧Q v H
def aAi (K:ae):R2:=fun x y H Q=>∃ p xs i v,x = .ref p∧y = .int i∧SqT K H p xs∧atI xs i=some v∧Q v H
def aAd:R2:=fun x y H Q=>∃ z i c,x = .str z∧y = .int i∧z.length<=sizeLine∧atI z.cps.toList i=some c∧Q (.str ⟨#[c]⟩) H
theorem cG:IxR X (Zk X.K):=by
 intro value slice pins s σ H x y v u Q I rx ry h hs;obtain⟨p,xs,i,z,rfl,rfl,hq,he,q⟩:=h;cases rx;obtain⟨t,rfl⟩:=ry;obtain⟨its,r,pl,hz⟩:=I.list hq;obtain⟨j,h1,h2,h3,h4,h5⟩:=zJ he;obtain⟨w,ew,rw'⟩:=r.get h2;have hl:=r.length;have hn:=tZ;have fin:EP X pins σ Q w s:=⟨z,H,I,rw',q⟩;by_cases h0:0<=i
 ·have hj:i.toNat=j:=by
   rw[seqIndex_of h0 h5] at h1;exact a8 h1
  exact item_listR pl.isList h0 (by omega) (by rw[hj];simpa using ew) fin hs
 ·have hj:(i+(its.toArray.size:Int)).toNat=j:=by
   rw[seqIndex_neg (by omega) h4] at h1;rw[az,<- hl];exact a8 h1
  exact subscriptTail_builtinR (x:=w) pl.isList.typeIs slot_list_getitem.lookup
   (wpAny_getItem_list_neg (Q:=fun r s'=>r=w∧EP X pins σ Q r s') pl.isList (by omega) (by rw[az] <;> omega) (by omega) (by rw[hj];simpa using ew) ⟨rfl,fin⟩) hs
theorem mU:IxR X (aAi X.K):=by
 intro value slice pins s σ H x y v u Q I rx ry h hs;obtain⟨p,xs,i,z,rfl,rfl,hq,he,q⟩:=h;cases rx;obtain⟨t,rfl⟩:=ry;obtain⟨its,r,pl,hz⟩:=I.tuple hq;obtain⟨j,h1,h2,h3,h4,h5⟩:=zJ he;obtain⟨w,ew,rw'⟩:=r.get h2;have hl:=r.length;have hn:=tZ;have fin:EP X pins σ Q w s:=⟨z,H,I,rw',q⟩;exact subscriptTail_builtinR (x:=w) pl.typeIs slot_tuple_getitem.lookup
  (getItem_tuple (j:=j) (Q:=fun r s'=>r=w∧EP X pins σ Q r s') pl (by omega) (by omega) (by rw[az,<- hl];exact h1) (by simpa using ew) ⟨rfl,fin⟩) hs
theorem Xh:IxR X aAd:=by
 intro value slice pins s σ H x y v u Q I rx ry h hs;obtain⟨z,i,c,rfl,rfl,hz,he,q⟩:=h;obtain⟨t,rfl⟩:=rx;obtain⟨t',rfl⟩:=ry;obtain⟨j,h1,h2,h3,h4,h5⟩:=zJ he;have hl:z.cps.toList.length=z.length:=by simp[Str.length]
 rw[hl] at h1 h4 h5;have hn:=tZ;exact tail_any (typeIs_str s z t) slot_str_getitem.lookup (getItem_str (c:=c) (by
  have e1:decide (i < -(2 ^ 63:Int))=false:=decide_eq_false (by omega);have e2:decide (i≥2 ^ 63)=false:=decide_eq_false (by omega);rw[e1,e2,ix]) (by rw[h1];simpa using h2) ⟨.str ⟨#[c]⟩,H,I.tok _,⟨_,rfl⟩,q⟩) hs
theorem yI (lo hi:Option Int)(n:Nat):(sliceBounds lo hi none n).1=((HT.sIx n 0 lo:Nat):Int)∧(sliceBounds lo hi none n).2.1=((HT.sIx n n hi:Nat):Int)∧(sliceBounds lo hi none n).2.2=1:=by
 refine⟨?_,?_,rfl⟩
 ·cases lo with
  | none=>simp[sliceBounds,HT.sIx]
  | some i =>
   simp only [sliceBounds,HT.sIx,sf,show (1:Int)>0 by decide,if_true];by_cases h:i<0
   ·simp only [h,if_true] <;> omega
   ·simp only [h,if_false] <;> omega
 ·cases hi with
  | none=>simp[sliceBounds,HT.sIx]
  | some i =>
   simp only [sliceBounds,HT.sIx,sf,show (1:Int)>0 by decide,if_true];by_cases h:i<0
   ·simp only [h,if_true] <;> omega
   ·simp only [h,if_false] <;> omega
theorem vM (its:List Value)(lo hi:Option Int):slicePick its.toArray lo hi none=((its.drop (HT.sIx its.length 0 lo)).take (HT.sIx its.length its.length hi-HT.sIx its.length 0 lo)).toArray:=by
 obtain⟨h1,h2,h3⟩:=yI lo hi its.toArray.size;unfold slicePick;rw[h1,h2,h3];simp only [sliceRange_one,pick_run,az] <;> rfl
def aAl (K:ae):V->Option Int->Option Int->Hp->VK->Prop:=fun x lo hi H Q=>∃ a xs,x = .ref a∧SqL K H a xs∧∀ p,H p=none->Q (.ref p) (upd H p (.lst (dE xs lo hi)))
theorem eP:SlR X (aAl X.K):=by
 intro pins s σ H x v vl vu lo hi sl Q I rx hs pl pu h;obtain⟨a,xs,rfl,hx,q⟩:=h;cases rx;obtain⟨its,r,ht,hz⟩:=I.list hx;have hlen:=r.length;refine⟨"list",_,slot_list_getitem.lookup,ht.isList.typeIs,?_⟩
 refine wpAny_getItem_list_slice ht.isList hs pl pu .none (by simp) ?_ (by rw[az] <;> omega);rw[vM,<- hlen];refine⟨.ref s.heap.objs.size,_,I.laid (t':=s.toks) (o:=.lst (dE xs lo hi)) (fun b ob q=>Heap.get?_push_of_some _ q) (af _) ?_,rfl,q _ (I.hok.fresh (af _))⟩;exact⟨av (qE xs lo hi) hz,_,0,(r.drop (HT.sIx xs.length 0 lo)).take (HT.sIx xs.length xs.length hi-HT.sIx xs.length 0 lo),Heap.get?_push_size _ rfl⟩
def iM:V->Bool
 | .non=>true
 | .bl _=>true
 | .int _=>true
 | .str _=>true
 | _=>false
def eqV:V->V->Bool
 | .non,.non=>true
 | .bl a,.bl b=>a==b
 | .bl a,.int b=>(if a then 1 else 0)==b
 | .int a,.bl b=>a==(if b then 1 else 0)
 | .int a,.int b=>a==b
 | .str a,.str b=>a==b
 | _,_=>false
theorem Pg {A:Around}{s:Shared}{y x:V}{u v:Value}(ry:bE y u)(rx:bE x v)(fy:iM y=true)(fx:iM x=true):SeqAt.EqAt A s u v (eqV y x):=by
 cases y with
 | non =>
  cases ry
  cases x with
  | non=>cases rx;exact SeqAt.EqAt.same _
  | bl b=>cases rx;exact SeqAt.EqAt.none_bool b
  | int b=>obtain⟨t,rfl⟩:=rx;exact SeqAt.EqAt.none_int b t
  | str b=>obtain⟨t,rfl⟩:=rx;exact SeqAt.EqAt.none_str b t
  | _=>exact absurd (show false=true from fx) am
 | bl a =>
  cases ry
  cases x with
  | non=>cases rx;exact SeqAt.EqAt.bool_none a
  | bl b=>cases rx;exact SeqAt.EqAt.bool_bool a b
  | int b=>obtain⟨t,rfl⟩:=rx;exact SeqAt.EqAt.bool_int a b t
  | str b=>obtain⟨t,rfl⟩:=rx;exact SeqAt.EqAt.bool_str a b t
  | _=>exact absurd (show false=true from fx) am
 | int a =>
  obtain⟨t',rfl⟩:=ry
  cases x with
  | non=>cases rx;exact SeqAt.EqAt.int_none a t'
  | bl b=>cases rx;exact SeqAt.EqAt.int_bool a t' b
  | int b=>obtain⟨t,rfl⟩:=rx;exact SeqAt.EqAt.int_int a t' b t
  | str b=>obtain⟨t,rfl⟩:=rx;exact SeqAt.EqAt.int_str a t' b t
  | _=>exact absurd (show false=true from fx) am
 | str a =>
  obtain⟨t',rfl⟩:=ry
  cases x with
  | non=>cases rx;exact SeqAt.EqAt.str_none a t'
  | bl b=>cases rx;exact SeqAt.EqAt.str_bool a t' b
  | int b=>obtain⟨t,rfl⟩:=rx;exact SeqAt.EqAt.str_int a t' b t
  | str b=>obtain⟨t,rfl⟩:=rx;exact SeqAt.EqAt.str_str a t' b t
  | _=>exact absurd (show false=true from fx) am
 | _=>exact absurd (show false=true from fy) am
def eqU (x:V)(u:Value):Bool:=match u with
 | .none=>eqV .non x
 | .bool b=>eqV (.bl b) x
 | .int i _=>eqV (.int i) x
 | .str z _=>eqV (.str z) x
 | _=>false
theorem Eh {x y:V}{u:Value}(r:bE y u)(f:iM y=true):eqU x u=eqV y x:=by
 cases y with
 | non=>cases r;rfl
 | bl b=>cases r;rfl
 | int i=>obtain⟨t,rfl⟩:=r;rfl
 | str z=>obtain⟨t,rfl⟩:=r;rfl
 | _=>exact absurd (show false=true from f) am
theorem nH {x:V}:∀ {xs:List V} {us:List Value},bV xs us->xs.all iM=true->us.any (eqU x)=xs.any fun y=>eqV y x
 | _,_,.nil,_=>rfl
 | y::xs,u::us,.cons r t,f=>by
  rw[qk,c7] at f;rw[lu,lu,Eh r f.1,nH t f.2]
theorem jE {A:Around}{s:Shared}{x:V}{v:Value}(rx:bE x v)(fx:iM x=true):∀ {xs:List V} {us:List Value},bV xs us->xs.all iM=true->∀ u∈us,SeqAt.EqAt A s u v (eqU x u)
 | _,_,.nil,_=>fun u hu=>by cases hu
 | y::xs,u::us,.cons r t,f=>fun u' hu=>by
  rw[qk,c7] at f;rcases ar.mp hu with rfl | hu
  ·rw[Eh r f.1];exact Pg r rx f.1 fx
  ·exact jE rx fx t f.2 u' hu
def inV (x:V)(xs:List V):Bool:=xs.any fun y=>eqV y x
def rIn (K:ae)(neg:Bool):R2:=fun x y H Q=>∃ p xs,y = .ref p∧(SqL K H p xs∨SqT K H p xs)∧iM x=true∧xs.all iM=true∧Q (.bl (if neg then !inV x xs else inV x xs)) H
theorem Kt:OpR X (compareOp .In) (rIn X.K false):=by
 intro pins s σ H x y v u Q I rx ry h;obtain⟨p,xs,rfl,hq,fx,fs,q⟩:=h;cases ry;rcases hq with hq | hq
 ·obtain⟨its,r,pl,hz⟩:=I.list hq
  refine SeqAt.in_listAt (eqU x) pl.isList (fun w hw=>jE rx fx r fs w (by simpa using hw)) ⟨.bl _,H,I,rfl,?_⟩;rw[show its.toArray.any (eqU x)=its.any (eqU x) by simp,nH r fs];exact q
 ·obtain⟨its,r,pl,hz⟩:=I.tuple hq
  refine SeqAt.in_tupleAt (eqU x) pl (fun w hw=>jE rx fx r fs w (by simpa using hw)) ⟨.bl _,H,I,rfl,?_⟩;rw[show its.toArray.any (eqU x)=its.any (eqU x) by simp,nH r fs];exact q
theorem jK:OpR X (compareOp .NotIn) (rIn X.K true):=by
 intro pins s σ H x y v u Q I rx ry h;obtain⟨p,xs,rfl,hq,fx,fs,q⟩:=h;cases ry;rcases hq with hq | hq
 ·obtain⟨its,r,pl,hz⟩:=I.list hq
  refine SeqAt.notIn_listAt (eqU x) pl.isList (fun w hw=>jE rx fx r fs w (by simpa using hw)) ⟨.bl _,H,I,rfl,?_⟩;rw[show its.toArray.any (eqU x)=its.any (eqU x) by simp,nH r fs];exact q
 ·obtain⟨its,r,pl,hz⟩:=I.tuple hq
  refine SeqAt.notIn_tupleAt (eqU x) pl (fun w hw=>jE rx fx r fs w (by simpa using hw)) ⟨.bl _,H,I,rfl,?_⟩;rw[show its.toArray.any (eqU x)=its.any (eqU x) by simp,nH r fs];exact q
theorem aN:eA X (.builtin "len") (fun xs H Q=>∃ p ys,xs=[.ref p]∧(SqL X.K H p ys∨SqT X.K H p ys)∧Q (.int ys.length) H):=by
 intro pins s σ H xs us Q I r h;obtain⟨p,ys,rfl,hq,q⟩:=h;obtain⟨u,rfl,rx⟩:=eZ r;cases rx;have hn:=tZ;rcases hq with hq | hq
 ·obtain⟨its,r',pl,hz⟩:=I.list hq
  have hlen:=r'.length;exact Calls.call_len_list pl.isList (by simp only [az] <;> omega) ⟨.int ys.length,H,I.tok _,⟨s.toks+1,by rw[az,hlen]⟩,q⟩
 ·obtain⟨its,r',pl,hz⟩:=I.tuple hq
  have hlen:=r'.length;exact len_tuple pl (by simp only [az] <;> omega) ⟨.int ys.length,H,I.tok _,⟨s.toks+1,by rw[az,hlen]⟩,q⟩
theorem xS:eA X (.builtin "len") (fun xs H Q=>∃ z,xs=[.str z]∧z.length<=sizeLine∧Q (.int z.length) H):=by
 intro pins s σ H xs us Q I r h;obtain⟨z,rfl,hz,q⟩:=h;obtain⟨u,rfl,t,rfl⟩:=eZ r;have hn:=tZ;exact len_str (by omega) ⟨.int z.length,H,I.tok _,⟨_,rfl⟩,q⟩
theorem nJ:eA X (.type "list") (fun xs H Q=>∃ p ys,xs=[.ref p]∧(SqL X.K H p ys∨SqT X.K H p ys)∧∀ l,H l=none->Q (.ref l) (upd H l (.lst ys))):=by
 intro pins s σ H xs us Q I r h;obtain⟨p,ys,rfl,hq,q⟩:=h;obtain⟨u,rfl,rx⟩:=eZ r;cases rx;have fin:∀ (its:List Value),bV ys its->ys.length<=sizeLine->∀ (h':Heap) (c':Nat),(∀ b o',s.heap.get? b=some o'->h'.get? b=some o') ->
   h'.get? s.heap.objs.size=some { cls:=.type "list",dict:=none,data:=.seq its.toArray c',slots:=#[] }->EP X pins σ Q (.ref s.heap.objs.size) { s with heap:=h' }:=fun its r' hz h' c' kp e =>
  ⟨.ref s.heap.objs.size,_,I.laid (t':=s.toks) kp (af _) (show cK X.prog X.w _ h' _ (.lst ys) from ⟨hz,its,c',r',e⟩),rfl,q _ (I.hok.fresh (af _))⟩
 rcases hq with hq | hq
 ·obtain⟨its,r',pl,hz⟩:=I.list hq
  have hlen:=r'.length;obtain⟨o,ho,hc,n,hd⟩:=pl.isList;exact call_list_seq p (.inl rfl) ho hc hd (fun h' c' kp e=>fin its r' hz h' c' kp e) (by simp only [az] <;> omega)
 ·obtain⟨its,r',pl,hz⟩:=I.tuple hq
  have hlen:=r'.length;obtain⟨o,ho,hc,n,hd⟩:=pl;exact call_list_seq p (.inr rfl) ho hc hd (fun h' c' kp e=>fin its r' hz h' c' kp e) (by simp only [az] <;> omega)
theorem iR:eA X (.type "tuple") (fun xs H Q=>∃ p ys,xs=[.ref p]∧((SqL X.K H p ys∧∀ l,H l=none->Q (.ref l) (upd H l (.tup ys)))∨(SqT X.K H p ys∧Q (.ref p) H))):=by
 intro pins s σ H xs us Q I r h;obtain⟨p,ys,rfl,h⟩:=h;obtain⟨u,rfl,rx⟩:=eZ r;cases rx;rcases h with ⟨hq,q⟩ | ⟨hq,q⟩
 ·obtain⟨its,r',pl,hz⟩:=I.list hq
  have hlen:=r'.length;refine call_tuple_list pl.isList (fun h' kp=>?_) (by simp only [az] <;> omega);have I1:Inv X pins σ H { s with heap:=h' }:=I.kept (t':=s.toks) kp;have I2:Inv X pins σ (upd H h'.objs.size (.tup ys)) { s with heap:=h'.push { cls:=.type "tuple",data:=.seq its.toArray } } :=
   I1.laid (t':=s.toks) (fun b o e=>Heap.get?_push_of_some _ e) (af _) (show cK X.prog X.w _ _ _ (.tup ys) from ⟨hz,its,r',IsTup.new _ _⟩)
  exact⟨.ref h'.objs.size,_,I2,rfl,q _ (I1.hok.fresh (af _))⟩
 ·obtain⟨its,r',pl,hz⟩:=I.tuple hq
  exact call_tuple_same pl ⟨.ref p,H,I,rfl,q⟩
def tyV (K:ae)(T:String)(x:V)(H:Hp):Prop:=match x with
 | .str _=>T = "str"
 | .int _=>T = "int"
 | .ref p=>(T = "list" ∧ ∃ xs,SqL K H p xs)∨(T = "tuple" ∧ ∃ o,K.lookup p=some o∧o.cls = .type "tuple" ∧ o.dict=none) ∨
  (T = "dict" ∧ ((∃ kvs,H p=some (.dK kvs))∨∃ kvs,H p=some (.dT kvs)))∨(T = "set" ∧ ∃ S n,H p=some (.set S n))
 | _=>False
theorem Xe {pins:List (Addr×Obj)}{σ:St}{H:Hp}{s:Shared}{T:String}{x:V}{v:Value}(I:Inv X pins σ H s)(r:bE x v)(ty:tyV X.K T x H) :
  s.TypeIs v T∧∀ a,v = .ref a->∃ ob,s.heap.get? a=some ob∧ob.dict=none:=by
 cases x with
 | str z =>
  obtain⟨t,rfl⟩:=r;cases (show T = "str" from ty)
  exact⟨typeIs_str s z t,fun _ e=>nomatch e⟩
 | int i =>
  obtain⟨t,rfl⟩:=r;cases (show T = "int" from ty)
  exact⟨typeIs_int s i t,fun _ e=>nomatch e⟩
 | ref p =>
  cases r;rcases ty with ⟨rfl,xs,hq⟩ | ⟨rfl,o,hk,hc,hd⟩ | ⟨rfl,hk⟩ | ⟨rfl,S,n,hk⟩
  ·obtain⟨its,_,pl,_⟩:=I.list hq
   refine⟨pl.isList.typeIs,fun a e=>?_⟩;cases e;obtain⟨o,n,e,c,hd,_⟩:=pl;exact⟨o,e,hd⟩
  ·refine⟨⟨o,I.kIn p o hk,hc⟩,fun a e=>?_⟩
   cases e;exact⟨o,I.kIn _ o hk,hd⟩
  ·have z:∃ o,s.heap.get? p=some o∧o.ExactDict:=by
    rcases hk with ⟨kvs,hk⟩ | ⟨kvs,hk⟩
    ·obtain⟨_,_,_,_,o,_,_,e,ex,_⟩:=I.hok p _ hk
     exact⟨o,e,ex⟩
    ·obtain⟨_,_,_,_,o,_,_,e,ex,_⟩:=I.hok p _ hk
     exact⟨o,e,ex⟩
   obtain⟨o,e,ex⟩:=z;refine⟨⟨o,e,ex.1⟩,fun a e2=>?_⟩;cases e2;exact⟨o,e,ex.2.1⟩
  ·obtain⟨o,_,_,_,e,ex,_⟩:=I.hok p _ hk
   refine⟨⟨o,e,ex.1⟩,fun a e2=>?_⟩;cases e2;exact⟨o,e,ex.2.1⟩
 | _=>exact False.elim ty
def tBM (K:ae)(T:String)(r:V->List V->Hp->VK->Prop)(to:TE)(t:TA):TE:=fun σ H Q=>to σ H fun x H1=>tyV K T x H1∧t σ H1 fun xs H2=>r x xs H2 Q
variable {o e:Expr}{es:List Expr}{to:TE}{t:TA}{name:Str}{apos cpos:Pos}{T id:String}{r:V->List V->Hp->VK->Prop}
theorem qC (pa:PlainAttrs T)(slot:Slot T name id)(hty:typeOf (.builtin id)=pure (.type "method_descriptor"))(hm:MtR X id r)(ho:PE X o to)(ha:PA X (e::es) t)
  (hbase:attributeBase o name X.env (eval o X.env)=eval o X.env:=by rfl)
  (hfew:((backTo cpos (starEach (e::es) X.env)).all (fun x=>!x.1)&&(backToKw cpos (keywordEach [] X.env)).all (fun x=>x.1.isSome)
   && decide ((e::es).length+([]:List Keyword).length+(if ([]:List Keyword).isEmpty then 0 else 1)<30))=true:=by rfl)
  (hline:(apos.endLine==cpos.line)=true:=by rfl) (hs:starEach (e::es) X.env=(false,eval e X.env)::starEach es X.env:=by rfl) (hplain:(backTo cpos (starEach es X.env)).any (·.1)=false:=by rfl) :
  PE X (.Call (.Attribute o name apos) (e::es) [] cpos) (tBM X.K T r to t):=by
 intro pins s σ H Q I h;refine wpAny_Call_method_late hbase hfew hline rfl (thn (ho pins s σ H _ I h) fun v s1 ⟨x,H1,I1,r1,ty,q1⟩=>?_);obtain⟨h1,h2⟩:=Xe I1 r1 ty;refine⟨T,id,pa,slot,hty,h1,h2,?_⟩;have hA:=ha cpos pins s1 σ H1 _ I1 q1;rw[hs] at hA ⊢;refine Calls.callWith_builtin (by show (false||(backTo cpos (starEach es X.env)).any (·.1))=false;rw[hplain] <;> rfl) (Calls.evalArgs_plain ?_);exact thn hA fun us s2 ⟨vs,H2,I2,r2,q2⟩=>hm pins s2 σ H2 x vs v us Q I2 r1 r2 q2
end
def MtM (X:Cx)(id:String)(r:V->List V->Hp->VK->Prop):Prop :=
 ∀ (pins:List (Addr×Obj)) (s:Shared) (σ:St) (H:Hp) (x:V) (xs:List V) (v:Value) (us:List Value) (Q:VK),Inv X pins σ H s->bE x v->bV xs us->r x xs H Q ->
  wpAny (model X.prog X.w) X.A (call (.builtin id) (v::us)) (EP X pins σ Q) X.xe s
theorem bV.one:∀ {x:V} {us:List Value},bV [x] us->∃ u,us=[u]∧bE x u
 | _,_,.cons r .nil=>⟨_,rfl,r⟩
section
variable {X:Cx}{pins:List (Addr×Obj)}{σ:St}{H:Hp}{s:Shared}{l b:Addr}{xs ys zs:List V}
theorem Inv.lset {its its':List Value}{n:Nat}{f:Array Value->Array Value}{t':Nat}(I:Inv X pins σ H s)(hH:H l=some (.lst xs))
  (e:s.heap.get? l=some { cls:=.type "list",data:=.seq its.toArray n }) (hf:f its.toArray=its'.toArray) (hv:bV ys its') (hz:ys.length<=sizeLine) :
  Inv X pins σ (upd H l (.lst ys)) { s with heap:=s.heap.update l (Obj.mapSeq f),toks:=t' }:=by
 have q:=PySem.IsL.update e f;rw[hf] at q;refine I.write (x:=l) (e:=l) (by rw[hH];exact trivial) (.inl rfl) (fun b' u hb hu=>(Heap.get?_update_other s.heap (Obj.mapSeq f) (Ne.symm hb)).trans hu) ⟨_,q⟩ ?_;exact⟨hz,its',_,hv,q⟩
theorem Inv.lnew {its:List Value}{t':Nat}(I:Inv X pins σ H s)(hv:bV ys its)(hz:ys.length<=sizeLine) :
  Inv X pins σ (upd H s.heap.objs.size (.lst ys)) { s with heap:=s.heap.push { cls:=.type "list",data:=.seq its.toArray },toks:=t' } :=
 I.laid (fun _ _ q=>Heap.get?_push_of_some _ q) (af _) ⟨hz,its,0,hv,Heap.get?_push_size _ rfl⟩
theorem Inv.fresh (I:Inv X pins σ H s):H s.heap.objs.size=none:=I.hok.fresh (af _)
theorem Inv.lstM (I:Inv X pins σ H s)(hH:H l=some (.lst xs)):xs.length<=sizeLine∧∃ (its:List Value) (n:Nat),bV xs its∧xs.length=its.length∧s.heap.get? l=some { cls:=.type "list",data:=.seq its.toArray n }:=by
 obtain⟨z,its,n,r,e⟩:=I.hok l _ hH;exact⟨z,its,n,r,r.length,e⟩
theorem Pr {n:Nat}(h:n<=sizeLine):Builtin.List.listTooLong n=false:=by
 unfold Builtin.List.listTooLong;exact decide_eq_false (by omega)
end
section
variable {X:Cx}
def Ue:V->List V->Hp->VK->Prop:=fun x vs H Q=>∃ l xs y,x = .ref l∧vs=[y]∧H l=some (.lst xs)∧xs.length<sizeLine∧Q .non (upd H l (.lst (xs++[y])))
theorem gN:MtM X "list.append" Ue:=by
 intro pins s σ H x vs v us Q I rx rv h;obtain⟨l,xs,y,rfl,rfl,hH,hz,q⟩:=h;cases rx;obtain⟨u,rfl,ru⟩:=rv.one;obtain⟨z,its,n,r,hl,e⟩:=I.lstM hH;refine call_meets F.slot_list_append ⟨_,e,rfl⟩ F.entry_list_append (F.args_list_append_2 _ _) (PySem.list_append l its.toArray n u (by rw[az];omega)) ⟨e,?_⟩;refine⟨.non,_,I.lset (its':=its++[u]) hH e (by simp) (r.append (.cons ru .nil)) ?_,rfl,q⟩;rw[ak,b7];omega
def Ty:V->List V->Hp->VK->Prop:=fun x vs H Q=>∃ l b xs zs,x = .ref l∧vs=[.ref b]∧H l=some (.lst xs)∧H b=some (.lst zs)∧xs.length+zs.length<=sizeLine∧Q .non (upd H l (.lst (xs++zs)))
theorem xD:MtM X "list.extend" Ty:=by
 intro pins s σ H x vs v us Q I rx rv h;obtain⟨l,b,xs,zs,rfl,rfl,hH,hB,hz,q⟩:=h;cases rx;obtain⟨u,rfl,ru⟩:=rv.one;cases ru;obtain⟨z,its,n,r,hl,e⟩:=I.lstM hH;obtain⟨z2,its2,n2,r2,hl2,e2⟩:=I.lstM hB;have hsz:its.toArray.size+its2.toArray.size<=sizeLine:=by rw[az,az];omega
 have hlong:¬ (!its.toArray.isEmpty&&Builtin.List.listTooLong (its.toArray.size+its2.toArray.size))=true:=by
  rw[Pr hsz,jb];exact am
 refine call_meets F.slot_list_extend ⟨_,e,rfl⟩ F.entry_list_extend (F.args_list_extend_2 _ _)
  (AutoSeq1.list_extend_list_list_0 l its.toArray n b its2.toArray n2 hlong (by rw[az];omega) (by omega)) ⟨e,e2,?_⟩
 refine⟨.non,_,I.lset (its':=its++its2) hH e (by simp) (r.append r2) ?_,rfl,q⟩;rw[ak];omega
end
section
variable {prog:Program}{w:World}{A:Around}{E:Value->Shared->Prop}{s:Shared}
end
section
variable {X:Cx}
end
end L2
namespace Att
open PySem PySem.W PySem.Calls PyProof.Rows
theorem qL {P:Params}{h:Heap}:∀ (ns:List Int) (vs:List Value),WellAll P h vs (ns.map WData.int)->IntsAre vs ns:=by
 intro ns
 induction ns with
 | nil =>
  intro vs w;rw[ip] at w;cases w;exact .nil
 | cons n ns ih =>
  intro vs w;rw[ap] at w
  cases w with
  | cons a b =>
   cases a;exact .cons _ _ (ih _ b)
theorem Kv {l:OpenLaw}{n:Nat}(hn:l.most=some n){P:Params}{h:Heap}{args:List WData}{vals:List Value}
  (hpre:l.row.toRowW.claim.pre args=true) (hwl:WellAll P h vals args) :
  ∃ a vs ns,vals=[Value.ref a]∧args=[WData.list (ns.map WData.int)]∧h.get? a=some { cls:=.type "list",data:=.seq vs.toArray }∧IntsAre vs ns∧ns.length<=n:=by
 have hsh:WShape.hasAll [] args [.list .int]=true:=(pre_splitW hpre).1;have hc:l.pre.holds [] { args:=args }=true:=(pre_splitW hpre).2;obtain⟨d,r,rfl,h1,h2⟩:=hasAllW_cons hsh;obtain rfl:=hasAllW_nil h2;obtain⟨xs,rfl,h3⟩:=hasW_list h1;obtain⟨ns,rfl⟩:=items_int h3;have hlen:ns.length<=n:=by
  unfold OpenLaw.pre at hc;have h4:(WTm.not (.lt (.lit (.int (n:Int))) (.len (.arg 0)))).holds [] { args:=[.list (ns.map .int)] }=true:=by
   have h4:=(holds_andW hc).1;rw[hn] at h4;exact h4
  have h5:=condW_of h4 (w_not (w_lt w_lit (w_len_list (w_arg rfl))));rw[aR] at h5;refine Nat.le_of_not_lt fun q=>?_
  have q':(n:Int)<((ns.length:Nat):Int):=by omega
  first
   | (rw[decide_eq_true q'] at h5;exact absurd h5 (by decide))
   | (simp at h5;omega)
 cases hwl with
 | cons w1 w2 =>
  cases w2
  cases w1 with
  | list ho hall=>exact⟨_,_,ns,rfl,rfl,ho,qL ns _ hall,hlen⟩
theorem Kj (l:OpenLaw)(args:List WData):l.row.toRowW.claim.post args (.bool true) args=true :=
 postW_of (r:=l.row.toRowW) (X:=(true==true))
  (show WShape.has [] (.bool true) .bool=true by first | rfl | decide | simp[WShape.has,WShape.arms,WShape.armsAll])
  (show (WTm.eq .res (.lit (.bool true))).value [] { args:=args,res:=some (.bool true),after:=args }=some (.bool (true==true)) from w_eq_bool (w_res rfl) w_lit) rfl
theorem At {l:OpenLaw}{n:Nat}{q:Program}{loose:List Str}{XP:(Str->Option Value)->Heap->Prop}{YP:World->Heap->Prop}{d:DefRec}
  (hn:l.most=some n) (hdf:d.params.defaults=[])
  (call:∀ (w:World) (s₀ s₁:Shared) (mg mb:Str->Option Value) (fa:Addr) (o:Obj) (pm cd doc:Value) (a:Addr) (vs:List Value) (ns:List Int),
   Ground q loose [] XP w s₀ mg mb s₁.heap->YP w s₁.heap ->
   s₁.heap.get? fa=some o->o.data = .func (docDef d.name d.params d.body d.scope pm cd doc)->s₁.heap.CodeRec cd d.name->mg d.name=some (.ref fa) ->
   s₁.heap.get? a=some { cls:=.type "list",data:=.seq vs.toArray }->IntsAre vs ns->ns.length<=n->s₁.gens = #[] ->
   codeAny (model l.prog w) callerA (.call (.ref fa) ⟨[.ref a],[]⟩) (fun r s'=>r = .ok (.ret (.bool true))∧OldK s₁.heap s'.heap∧s'.os=s₁.os∧AllBare s'.gens) s₁) :
  WalkO q loose XP YP l.row.toRowW d [] (fun f vs=>ud f vs):=by
 intro w s₀ s₁ mg mb G Y fa o pm cd doc dV kV ho hd hcd hD hmg hg args vals as hpre hlay hrd hwl hlo;obtain rfl:dV = .none:=Dflts.none hD hdf;obtain rfl:kV = .none:=Dflts.noKw hD;obtain⟨a,vs,ns,rfl,rfl,hobj,hints,hlen⟩:=Kv hn hpre hwl;refine enter_call (codeAny_mono (call w s₀ s₁ mg mb fa o pm cd doc a vs ns G Y ho (fd_plain hd) hcd hmg hobj hints hlen hg) fun r s' hq=>?_);obtain⟨rfl,h2,h3,h4⟩:=hq;exact⟨.inl ⟨.bool true,.bool true,[],rfl,fun _=>rfl,.bool true,Kj l _,fun _=>⟨m9,fun _ hm=>(nomatch hm)⟩⟩,h2,h3,h4⟩
section
variable {prog:Program}{w:World}{A:Around}{E:Value->Shared->Prop}{s:Shared}{K:Frag}
end
end Att
namespace L2
open PySem PySem.Spec PyProof.Rows
theorem wL:∀ {vs:List Value} {ns:List Int},IntsAre vs ns->bV (ns.map V.int) vs
 | _,_,.nil=>.nil
 | _,_,.cons n t h=>.cons ⟨t,rfl⟩ (wL h)
def Wx (H:Hp):Prop:=∀ b,H b=none∨∃ o xs,H b=some (.frz o (.lst xs))
theorem My {P:Program}{w:World}{K:ae}{mg mb:Str->Option Value}{CX:CXT}{k:Nat}{fa a:Addr}{fd:FuncData}{x:Str}{sp:Sp}{s₁:Shared}{vs:List Value}{ns:List Int}
  (KX:K.In s₁.heap) (hns:s₁.heap.Ns mainGlobals mg) (hb:s₁.heap.Ns builtinsNs mb) (hbb:∀ x:Str,x ≠ "__name__" -> mb x=bootBuiltins x) (hlim:s₁.heap.NoLimit) (hg:s₁.gens = #[])
  (ha:s₁.heap.get? a=some { cls:=.type "list",data:=.seq vs.toArray }) (hi:IntsAre vs ns) (hl:ns.length<=sizeLine) (hr:fY k callerA)
  (F:∀ base:Heap,K.In base->base.Ns mainGlobals mg->bW P w K mg base CX k fa fd [x] sp) (hbind:∀ (s:Shared) (u:Value),BindsTo s fd ⟨[u],[]⟩ [(x,u)])
  (hsp:∀ H:Hp,Wx H->SqL K H a (ns.map V.int)->sp [.ref a] H (fun v _=>v = .bl true) fun _ _ _=>False)
  (hCX:∀ H e s',CX [] H s₁ (fun _ _ _=>False) e s'->False) :
  codeAny (model P w) callerA (.call (.ref fa) ⟨[.ref a],[]⟩) (fun r s'=>r = .ok (.ret (.bool true))∧OldK s₁.heap s'.heap∧s'.os=s₁.os∧AllBare s'.gens) s₁:=by
 have rv:=wL hi;have lenV:=hi.length;have core:∀ H:Hp,Wx H->SqL K H a (ns.map V.int)->HOk P w H s₁.heap->(∀ b,H b≠none->b=a)->(H a≠none->K.lookup a=none) ->
   codeAny (model P w) callerA (.call (.ref fa) ⟨[.ref a],[]⟩) (fun r s'=>r = .ok (.ret (.bool true))∧OldK s₁.heap s'.heap∧s'.os=s₁.os∧AllBare s'.gens) s₁:=by
  intro H hO hS hok hA hK;have base_of:∀ {b:Addr} {o:Obj},s₁.heap.get? b=some o->H b=none->(zU s₁.heap H).get? b=some o:=fun e n=>Mt e n
  have noA:∀ {b:Addr} {o:Obj} {es:Array DictEntry} {ep:Nat},s₁.heap.get? b=some o->o.data = .dict es ep->H b=none:=fun {b o es ep} e d=>by
   cases q:H b with
   | none=>rfl
   | some u =>
    have e':b=a:=hA b (by rw[q];simp);subst e';rw[ha] at e;cases e;have d':Data.seq vs.toArray _=Data.dict es ep:=d;cases d'
  have nsK:∀ {b:Addr} {m:Str->Option Value},s₁.heap.Ns b m->(zU s₁.heap H).Ns b m:=fun {b m} ⟨o,es,ep,e,d,r⟩=>⟨o,es,ep,base_of e (noA e d),d,r⟩
  have hKb:K.In (zU s₁.heap H):=fun b o e=>base_of (KX b o e) (by
   cases q:H b with
   | none=>rfl
   | some u =>
    have e':b=a:=hA b (by rw[q];simp);subst e';rw[hK (by rw[q];simp)] at e;cases e)
  have hM:Mod K mg (zU s₁.heap H):=⟨hKb,nsK hns,⟨mb,nsK hb,hbb⟩,let ⟨mc,h1,h2⟩:=hlim;⟨mc,nsK h1,h2⟩⟩;have e0:Eo P w K mg (zU s₁.heap H) callerA [] s₁ H:=⟨rfl,hM,fun b o e=>Uh e,ku (Kr _ _),trivial,fun b hb=>absurd (show b∈([]:List Addr) from hb) (by simp),hok,.of_eq hg⟩;refine codeAny_mono ((F _ hKb (nsK hns)).run callerA [] s₁ H ⟨[.ref a],[]⟩ [.ref a] [.ref a] _ _ hr e0 (hbind s₁ (.ref a)) (.cons rfl .nil) (hsp H hO hS)) fun r s' h=>?_
  cases r with
  | error e=>exact (hCX H e s' h).elim
  | ok fl =>
   cases fl with
   | next=>exact False.elim h
   | brk=>exact False.elim h
   | cont=>exact False.elim h
   | ret u =>
    obtain⟨v,H',os,bare,un,hok',r',q⟩:=h;have q':v = .bl true:=q;subst q';obtain rfl:u=Value.bool true:=r';refine⟨rfl,OldK.of_keep fun b o e=>?_,os,bare⟩
    cases q:H b with
    | none=>exact un.keep b o e q (by intro z;exact absurd (show b∈([]:List Addr) from z) (by simp)) (by simp)
    | some u =>
     rcases hO b with z | ⟨ob,xs,z⟩
     ·rw[q] at z;cases z
     ·have z2:=un.frzs b ob _ z
      obtain⟨e1,_⟩:=hok b _ z;obtain⟨e2,_⟩:=hok' b _ z2;rw[e] at e1;cases e1;exact e2
 cases hk:K.lookup a with
 | some o =>
  have e:=KX a o hk;rw[ha] at e;cases e;refine core (fun _=>none) (fun _=>.inl rfl) (.inr ⟨_,vs.toArray,_,hk,rfl,rfl,rfl,by rw[az,lenV];exact hl,by simpa using rv⟩) (fun b u z=>by have z':(none:Option HO)=some u:=z;cases z') (fun b z=>absurd rfl z) fun z=>absurd rfl z
 | none =>
  refine core (fun b=>if b=a then some (.frz { cls:=.type "list",data:=.seq vs.toArray } (.lst (ns.map V.int))) else none) (fun b=>?_) (.inl (.inr ⟨{ cls:=.type "list",data:=.seq vs.toArray },if_pos rfl⟩)) (fun b u z=>?_) (fun b z=>?_) fun _=>hk
  ·by_cases hb:b=a
   ·exact .inr ⟨_,_,if_pos hb⟩
   ·exact .inl (if_neg hb)
  ·by_cases hb:b=a
   ·have z':=(if_pos hb).symm.trans z
    cases z';subst hb;exact⟨ha,by rw[aR];exact hl,vs,_,rv,ha⟩
   ·have z':=(if_neg hb).symm.trans z
    cases z'
  ·by_cases hb:b=a
   ·exact hb
   ·exact absurd (if_neg hb) z
theorem Tb {l:o8}{n k:Nat}{q:Program}{loose:List Str}{XP:(Str->Option Value)->Heap->Prop}{YP:World->Heap->Prop}{d:DefRec}{K:Params->ae}{CX:World->CXT}{sp:World->Sp}{x:Str}
  (hn:l.most=some n) (hn2:n<=sizeLine) (hdf:d.params.defaults=[]) (hr:fY k callerA)
  (hY:∀ (w:World) (h:Heap),YP w h->(K w.params).In h)
  (F:∀ (w:World) (mg:Str->Option Value) (fa:Addr) (h:Heap),(K w.params).In h->h.Ns mainGlobals mg->mg d.name=some (.ref fa) ->
   ∃ fd:FuncData,(∀ (s:Shared) (u:Value),BindsTo s fd ⟨[u],[]⟩ [(x,u)]) ∧
    ∀ base:Heap,(K w.params).In base->base.Ns mainGlobals mg->bW l.prog w (K w.params) mg base (CX w) k fa fd [x] (sp w))
  (hsp:∀ (w:World) (H:Hp) (a:Addr) (ns:List Int),ns.length<=n->Wx H->SqL (K w.params) H a (ns.map V.int)->sp w [.ref a] H (fun v _=>v = .bl true) fun _ _ _=>False)
  (hCX:∀ (w:World) (H:Hp) (s:Shared) (e:Value) (s':Shared),CX w [] H s (fun _ _ _=>False) e s'->False) :
  uv q loose XP YP l.row.toRowW d [] (fun f vs=>ud f vs):=by
 refine Att.At hn hdf fun w s₀ s₁ mg mb fa o pm cd doc a vs ns G Y ho hd hcd hmg hobj hints hlen hg=>?_
 have KX:=hY w _ Y;obtain⟨fd,hb,hF⟩:=F w mg fa _ KX G.T.g hmg;exact My KX G.T.g G.T.b G.T.builtins G.T.nolimit hg hobj hints (av hlen hn2) hr hF hb (fun H hO hS=>hsp w H a ns hlen hO hS) fun H e s'=>hCX w H s₁ e s'
def Rt (s:Stmt)(j:Nat):Stmt:=match s with
 | .ClassDef _ _ _ body _ _ _ _ _ _ _=>body.getD j (.Pass ⟨0,0,0,0⟩)
 | _=>.Pass ⟨0,0,0,0⟩
def gI (s:Stmt):Arguments:=match s with
 | .FunctionDef _ a _ _ _ _ _ _ _ _=>a
 | _=>{ posonlyargs:=[],args:=[],vararg:=none,kwonlyargs:=[],kw_defaults:=[],kwarg:=none,defaults:=[] }
def fG (s:Stmt):List Stmt:=match s with
 | .FunctionDef _ _ b _ _ _ _ _ _ _=>b
 | _=>[]
def aF (s:Stmt):Scope:=match s with
 | .FunctionDef _ _ _ _ _ _ sc _ _ _=>sc
 | _=>{ kind:=.function,names:=[],isGenerator:=false,isCoroutine:=false }
abbrev E0:XK:=fun _ _ _=>False
structure Fun (K:ae)(x qual:Str)(st:Stmt)(f:Addr)(fd:FuncData):Prop where
 ex:∃ (oc:Value) (od:Option Addr) (kV doc pm:Value) (an:Option Addr) (cdv ct:Value) (osl:Array (Option Value)),
  fd=gn x qual (gI st) (fG st) (aF st) .none kV doc pm an cdv ct∧K.lookup f=some ⟨oc,od,.func fd,osl⟩∧ja K cdv qual=true
 kp:ff K (.ref f)=true
section
variable {P:Program}{w:World}{K:ae}{mg:Str->Option Value}{base:Heap}
theorem Fun.binds {x qual:Str}{st:Stmt}{f:Addr}{fd:FuncData}{ps:List Str}(F:Fun K x qual st f fd)
  (h:∀ (kV doc pm:Value) (an:Option Addr) (cdv ct:Value) (us:List Value),us.length=ps.length->bindArgs (gn x qual (gI st) (fG st) (aF st) .none kV doc pm an cdv ct) ⟨us,[]⟩=pure (ps.zip us)):kR K fd ps []:=by
 obtain⟨oc,od,kV,doc,pm,an,cdv,ct,osl,rfl,lk,hcd⟩:=F.ex;exact .all (h kV doc pm an cdv ct)
theorem Fi {x qual:Str}{st:Stmt}{f:Addr}{oc:Value}{od an:Option Addr}{osl:Array (Option Value)}{kV doc pm cdv ct:Value}(l:K.lookup f=some ⟨oc,od,.func (gn x qual (gI st) (fG st) (aF st) .none kV doc pm an cdv ct),osl⟩)
 (c:ja K cdv qual=true) (k:ff K (.ref f)=true):Fun K x qual st f (gn x qual (gI st) (fG st) (aF st) .none kV doc pm an cdv ct):=⟨⟨oc,od,kV,doc,pm,an,cdv,ct,osl,rfl,l,c⟩,k⟩
end
theorem fW {A:Around}{k:Nat}(hr:fY k A):A.units+1<cLine:=eh (j8 (by decide:1<=64) _) hr.units
section
variable {X:Cx}
theorem pv (i:Nat){x:Str}{pos:Pos}(hN:X.N[i]?=some x:=by rfl)(hv:Vis X.env.scope x:=by first | exact Or.inl rfl | exact Or.inr (Or.inl rfl) | exact Or.inr (Or.inr rfl))(hd:(x==("__debug__" : Str))=false:=by decide)
 (hcd:(x==("__classdict__" : Str))=false:=by decide):PE X (.Name x pos) (Zt i):=Vq hN hv hd hcd
end
theorem tI {A B:Prop}(h:B):if false=true then A else B:=by
 rw[if_neg am];exact h
theorem vD {A B:Prop}(h:A):if true=true then A else B:=by
 rw[if_pos rfl];exact h
theorem fZ {c A B:Prop}[Decidable c](h1:c->A)(h2:¬ c->B):if c then A else B:=by
 by_cases h:c
 ·rw[if_pos h]
  exact h1 h
 ·rw[if_neg h]
  exact h2 h
theorem Ve {c A B:Prop}[Decidable c](hc:c)(h:B):if (!decide c)=true then A else B:=by
 rw[decide_eq_true hc];exact tI h
def aK (H H':Hp):Prop:=∀ b o,H b=some o->H' b=some o
theorem aK.refl (H:Hp):aK H H:=fun _ _ h=>h
theorem aK.trans {H H1 H2:Hp}(a:aK H H1)(b:aK H1 H2):aK H H2:=fun c o h=>b c o (a c o h)
theorem aK.seq {K:ae}{H H':Hp}{a:Addr}{xs:List V}(e:aK H H')(h:SqL K H a xs):SqL K H' a xs:=by
 rcases h with (h | ⟨o,h⟩) | h
 ·exact .inl (.inl (e _ _ h))
 ·exact .inl (.inr ⟨o,e _ _ h⟩)
 ·exact .inr h
end L2
namespace Wd
abbrev W:=List Nat
theorem aAa {a b c:W}(h:¬ b<a)(h':¬ c<b):¬ c<a:=fun hc=>sr.mpr (List.le_trans (sr.mp h) (sr.mp h')) hc
def rot (k:Nat)(w:W):W:=w.drop k++w.take k
theorem Tn {a b:W}(hl:a.length=b.length)(h:∀ i,i<a.length->a[i]?=b[i]?):a=b:=by
 apply fe ;intro i;by_cases hi:i<a.length
 ·exact h i hi
 ·rw[bn (by omega),bn (by omega)]
def xX (w:W):Nat->W
 | 0=>w
 | n+1=>if rot (n+1) w<xX w n then rot (n+1) w else xX w n
def mB (w:W):W:=xX w (w.length-1)
def rep (n:Nat)(l:W):W:=(mq n l).flatten
theorem sR (n:Nat)(l:W):rep (n+1) l=l++rep n l:=by unfold rep;rw[qh,kx]
theorem Cf (l:W):rep 0 l=[]:=rfl
theorem Tx (l:W):rep 1 l=l:=by rw[sR,Cf,df]
theorem Hx (n:Nat)(l:W):(rep n l).length=n*l.length:=by
 induction n with
 | zero=>rw[Cf,oo];rfl
 | succ n ih=>rw[sR,ak,ih,Nat.succ_mul,iq]
end Wd
namespace Dt
abbrev Mx:=Nat->Nat->Int
def cX:Nat->(Nat->Int)->Int
 | 0,_=>0
 | n+1,f=>cX n f+f n
def sk (j k:Nat):Nat:=if k<j then k else k+1
def sg (j:Nat):Int:=if j % 2=0 then 1 else -1
def det:Nat->Mx->Int
 | 0,_=>1
 | n+1,A=>cX (n+1) fun j=>sg j*(A 0 j*det n fun i k=>A (i+1) (sk j k))
section
variable {n N p q i j k l:Nat}{A B:Mx}{f g:Nat->Int}{c m:Int}
theorem eI:∀ {n:Nat},(∀ j,j<n->f j=g j)->cX n f=cX n g
 | 0,_=>rfl
 | n+1,h=>by
  show cX n f+f n=cX n g+g n;rw[eI (n:=n) fun j hj=>h j (by omega),h n (by omega)]
theorem nP:∀ {n:Nat},cX n (fun j=>f j+c*g j)=cX n f+c*cX n g
 | 0=>by show (0:Int)=0+c*0;omega
 | n+1=>by
  show cX n (fun j=>f j+c*g j)+(f n+c*g n)=(cX n f+f n)+c*(cX n g+g n);rw[nP (n:=n),p8];omega
theorem lA:∀ {n:Nat},(∀ j,j<n->f j=0)->cX n f=0
 | 0,_=>rfl
 | n+1,h=>by
  show cX n f+f n=0;rw[lA (n:=n) fun j hj=>h j (by omega),h n (by omega)];rfl
theorem Ig {n:Nat}:cX n (fun j=>c*g j)=c*cX n g:=by
 have h:=nP (n:=n) (f:=fun _=>0) (c:=c) (g:=g);rw[lA (fun _ _=>rfl)] at h;rw[eI (g:=fun j=>0+c*g j) fun j _=>by omega,h];omega
theorem xA:∀ {n:Nat},(∀ j,0<j->j<n+1->f j=0)->cX (n+1) f=f 0
 | 0,_=>by show (0:Int)+f 0=f 0;omega
 | n+1,h=>by
  show cX (n+1) f+f (n+1)=f 0;rw[xA (n:=n) fun j h0 hj=>h j h0 (by omega),h (n+1) (by omega) (by omega)];omega
theorem Nx (h:k<n):sk j k<n+1:=by unfold sk;split <;> omega
theorem bR:∀ {n:Nat} {A B:Mx},(∀ i k,i<n->k<n->A i k=B i k)->det n A=det n B
 | 0,_,_,_=>rfl
 | n+1,A,B,h=>by
  refine eI fun j hj=>?_
  rw[h 0 j (by omega) hj,bR (n:=n) fun i k hi hk=>h (i+1) (sk j k) (by omega) (Nx hk)]
def cF (A:Mx)(i:Nat)(u:Nat->Int):Mx:=fun a k=>if a=i then u k else A a k
theorem lM {u:Nat->Int}:cF A i u i=u:=by
 funext k
 exact if_pos rfl
theorem jP {u:Nat->Int}{a:Nat}(h:a≠i):cF A i u a=A a:=by
 funext k
 exact if_neg h
theorem Da {u:Nat->Int}:(fun a k=>cF A (i+1) u (a+1) (sk j k))=cF (fun a k=>A (a+1) (sk j k)) i fun k=>u (sk j k):=by
 funext a k
 unfold cF;by_cases h:a=i
 ·rw[if_pos h,if_pos (by omega)]
 ·rw[if_neg h,if_neg (by omega)]
theorem nI:∀ {n:Nat} {A:Mx} {i:Nat} {u v:Nat->Int},i<n->det n (cF A i fun k=>u k+c*v k)=det n (cF A i u)+c*det n (cF A i v)
 | n+1,A,0,u,v,_=>by
  have e:∀ w:Nat->Int,det (n+1) (cF A 0 w)=cX (n+1) fun j=>sg j*(w j*det n fun i k=>A (i+1) (sk j k)):=fun w=>by
   refine eI fun j _=>?_
   rw[lM,bR (n:=n) (A:=fun i k=>cF A 0 w (i+1) (sk j k)) (B:=fun i k=>A (i+1) (sk j k)) fun a k _ _=>by rw[jP (by omega)]]
  rw[e,e,e,<- nP];refine eI fun j _=>?_
  rw[Int.add_mul,p8]
  congr 1
  rw[dm c,<- dm (sg j) c,gq (sg j) c,dm c]
 | n+1,A,i+1,u,v,h=>by
  have e:∀ w:Nat->Int,det (n+1) (cF A (i+1) w)=cX (n+1) fun j=>sg j*(A 0 j*det n (cF (fun a k=>A (a+1) (sk j k)) i fun k=>w (sk j k))):=fun w=>by
   refine eI fun j _=>?_
   rw[Da,jP (by omega)]
  rw[e,e,e,<- nP];refine eI fun j _=>?_
  rw[nI (n:=n) (i:=i) (u:=fun k=>u (sk j k)) (v:=fun k=>v (sk j k)) (by omega),p8,p8]
  congr 1
  rw[<- dm (A 0 j) c,gq (A 0 j) c,dm c,<- dm (sg j) c,gq (sg j) c,dm c]
theorem Hq:sg (j+1) = - sg j:=by
 unfold sg;by_cases h:j % 2=0
 ·rw[if_pos h,if_neg (by omega)]
 ·rw[if_neg h,if_pos (by omega)];rfl
theorem Zg:sg j*sg j=1:=by
 unfold sg;split <;> rfl
theorem dbl {F:Nat->Nat->Int}:∀ {N:Nat},(∀ j l,l<j->j<=N->F j l+F l (j-1)=0)->cX (N+1) (fun j=>cX N (F j))=0
 | 0,_=>rfl
 | N+1,h=>by
  have ih:=dbl (N:=N) fun j l hl hj=>h j l hl (by omega)
  have e1:cX (N+1) (fun j=>cX (N+1) (F j))=cX (N+1) (fun j=>cX N (F j)+1*F j N):=eI fun j _=>by
   show cX N (F j)+F j N=_;omega
  have e2:cX (N+1) (fun l=>F l N+1*F (N+1) l)=0:=lA fun l hl=>by
   have:=h (N+1) l (by omega) (by omega)
   rw[qo] at this;omega
  rw[nP] at e1 e2;show cX (N+1) (fun j=>cX (N+1) (F j))+cX (N+1) (F (N+1))=0;have e3:cX (N+1) (F (N+1))=cX (N+1) fun l=>F (N+1) l:=rfl
  rw[e1,ih];omega
theorem Zx (h:l<j):sk j (sk l k)=sk l (sk (j-1) k):=by
 have a:∀ x y:Nat,sk x y=if y<x then y else y+1:=fun _ _=>rfl
 by_cases h1:k<l
 ·rw[a l k,if_pos h1,a j k,if_pos (by omega),a (j-1) k,if_pos (by omega),a l k,if_pos h1]
 ·rw[a l k,if_neg h1]
  by_cases h2:k+1<j
  ·rw[a j,if_pos h2,a (j-1) k,if_pos (by omega),a l k,if_neg h1]
  ·rw[a j,if_neg h2,a (j-1) k,if_neg (by omega),a l,if_neg (by omega)]
theorem aAJ (h:∀ k,k<n+2->A 0 k=A 1 k):det (n+2) A=0:=by
 have e:det (n+2) A=cX (n+2) fun j=>cX (n+1) fun l=>sg j*(A 0 j*(sg l*(A 1 (sk j l)*det n fun i k=>A (i+2) (sk j (sk l k))))):=by
  refine eI fun j _=>?_
  show sg j*(A 0 j*cX (n+1) fun l=>sg l*(A 1 (sk j l)*det n fun i k=>A (i+2) (sk j (sk l k))))=_;rw[<- Ig,<- Ig]
 rw[e];refine dbl fun j l hl hj=>?_
 have s1:sk j l=l:=by unfold sk;rw[if_pos hl]
 have s2:sk l (j-1)=j:=by unfold sk;rw[if_neg (by omega)];omega
 have s3:(fun i k=>A (i+2) (sk l (sk (j-1) k)))=fun i k=>A (i+2) (sk j (sk l k)):=by
  funext i k
  rw[Zx hl]
 rw[s1,s2,s3,<- h j (by omega),<- h l (by omega)];have s4:sg j = - sg (j-1):=by rw[<- Hq,ib (by omega)]
 rw[s4];generalize det n (fun i k=>A (i+2) (sk j (sk l k)))=d
 grind
theorem alt:∀ {n i:Nat} {A:Mx},i+1<n->(∀ k,k<n->A i k=A (i+1) k)->det n A=0
 | n+2,0,A,_,h=>aAJ h
 | n+1,i+1,A,hi,h=>by
  refine lA fun j _=>?_
  rw[alt (n:=n) (i:=i) (A:=fun a k=>A (a+1) (sk j k)) (by omega) fun k hk=>h (sk j k) (Nx hk),gr,gr]
def tr (p i:Nat):Nat:=if i=p then p+1 else if i=p+1 then p else i
theorem oJ {u v:Nat->Int}(h:i≠j):cF (cF A i u) j v=cF (cF A j v) i u:=by
 funext a k
 unfold cF;by_cases h1:a=i
 ·rw[if_neg (by omega),if_pos h1,if_pos h1]
 ·by_cases h2:a=j
  ·rw[if_pos h2,if_neg h1,if_pos h2]
  ·rw[if_neg h2,if_neg h1,if_neg h1,if_neg h2]
theorem zS {u v:Nat->Int}(h:i<n):det n (cF A i fun k=>u k+v k)=det n (cF A i u)+det n (cF A i v):=by
 have:=nI (c:=1) (A:=A) (u:=u) (v:=v) h
 rw[jf] at this;rw[<- this]
 congr 2
 funext k
 omega
theorem jF (u:Nat->Int)(h:∀ k,u k=A i k):det n (cF A i u)=det n A:=bR fun a k _ _=>by
 unfold cF;by_cases e:a=i
 ·rw[if_pos e,h,e]
 ·rw[if_neg e]
theorem swap (h:p+1<n):det n (fun i k=>A (tr p i) k) = - det n A:=by
 have D:∀ x y:Nat->Int,∃ d,det n (cF (cF A p x) (p+1) y)=d:=fun _ _=>⟨_,rfl⟩
 have z:∀ w:Nat->Int,det n (cF (cF A p w) (p+1) w)=0:=fun w=>alt h fun k _=>by rw[jP (by omega),lM,lM]
 have l2:∀ x y y':Nat->Int,det n (cF (cF A p x) (p+1) fun k=>y k+y' k)=det n (cF (cF A p x) (p+1) y)+det n (cF (cF A p x) (p+1) y'):=fun x y y'=>zS h
 have l1:∀ x x' y:Nat->Int,det n (cF (cF A p fun k=>x k+x' k) (p+1) y)=det n (cF (cF A p x) (p+1) y)+det n (cF (cF A p x') (p+1) y):=fun x x' y=>by
  rw[oJ (by omega),oJ (u:=x) (by omega),oJ (u:=x') (by omega)];exact zS (by omega)
 have e0:=z fun k=>A p k+A (p+1) k
 rw[l2,l1,l1,z,z] at e0;have e1:det n (cF (cF A p (A p)) (p+1) (A (p+1)))=det n A:=by
  rw[jF _ (fun k=>by rw[jP (by omega)]),jF _ (fun k=>rfl)]
 have e2:det n (cF (cF A p (A (p+1))) (p+1) (A p))=det n fun i k=>A (tr p i) k:=by
  refine bR fun a k _ _=>?_
  unfold cF tr;by_cases h1:a=p+1
  ·rw[if_pos h1,if_neg (by omega),if_pos h1]
  ·rw[if_neg h1]
   by_cases h2:a=p
   ·rw[if_pos h2,if_pos h2]
   ·rw[if_neg h2,if_neg h2,if_neg h1]
 rw[e1,e2] at e0;omega
theorem rN:∀ (d:Nat) {i:Nat} {A:Mx},i+1+d<n->(∀ k,k<n->A i k=A (i+1+d) k)->det n A=0
 | 0,i,A,hi,h=>alt hi h
 | d+1,i,A,hi,h=>by
  have h2:=rN d (i:=i) (A:=fun a k=>A (tr (i+1+d) a) k) (by omega) fun k hk=>by
   show A (tr (i+1+d) i) k=A (tr (i+1+d) (i+1+d)) k;unfold tr;rw[if_neg (by omega),if_neg (by omega),if_pos rfl];exact h k hk
  rw[swap (by omega)] at h2;omega
theorem Xc {t:Int}(h0:0<i)(h:i<n):det n (cF A i fun k=>A i k-t*A 0 k)=det n A:=by
 have e:=nI (c:=-t) (A:=A) (u:=A i) (v:=A 0) h;rw[jF (A i) fun _=>rfl,rN (i-1) (i:=0) (A:=cF A i (A 0)) (by omega) fun k _=>?_,gr,rc] at e
 ·rw[<- e]
  congr 2
  funext k
  rw[su];omega
 ·rw[jP (by omega),show 0+1+(i-1)=i by omega,lM]
theorem Qf {t:Nat->Int}:∀ {m:Nat},m<=n->det n (fun i k=>if 0<i∧i<m then A i k-t i*A 0 k else A i k)=det n A
 | 0,_=>bR fun i k _ _=>if_neg (by omega)
 | m+1,hm=>by
  rw[<- Qf (m:=m) (by omega)];by_cases h0:m=0
  ·subst h0
   exact bR fun i k _ _=>by rw[if_neg (by omega),if_neg (by omega)]
  ·rw[<- Xc (A:=fun i k=>if 0<i∧i<m then A i k-t i*A 0 k else A i k) (i:=m) (t:=t m) (by omega) (by omega)]
   refine bR fun i k _ _=>?_
   unfold cF
   dsimp only
   by_cases h1:i=m
   ·subst h1
    rw[if_pos rfl,if_pos (by omega),if_neg (by omega),if_neg (by omega)]
   ·rw[if_neg h1]
    by_cases h2:0<i∧i<m
    ·rw[if_pos h2,if_pos (by omega)]
    ·rw[if_neg h2,if_neg (by omega)]
theorem Xk:∀ {n:Nat} {A:Mx},(∀ i,i<n+1->A i 0=0)->det (n+1) A=0
 | n,A,h=>by
  refine lA fun j hj=>?_
  cases j with
  | zero=>rw[h 0 (by omega),oq,gr]
  | succ j =>
   cases n with
   | zero=>omega
   | succ n=>rw[Xk (n:=n) (A:=fun i k=>A (i+1) (sk (j+1) k)) fun i hi=>h (i+1) (by omega),gr,gr]
theorem Yg (h:∀ i,i<n->A (i+1) 0=0):det (n+1) A=A 0 0*det n fun i k=>A (i+1) (k+1):=by
 show cX (n+1) _=_;rw[xA fun j h0 hj=>?_]
 ·show sg 0*(A 0 0*det n fun i k=>A (i+1) (sk 0 k))=_
  rw[show sg 0=1 from rfl,jf];rfl
 ·cases n with
  | zero=>omega
  | succ n =>
   rw[Xk (A:=fun i k=>A (i+1) (sk j k)) fun i hi=>by
    show A (i+1) (sk j 0)=0;rw[show sk j 0=0 by unfold sk;rw[if_pos h0]];exact h i hi,gr,gr]
def Cg (m a b:Int):Prop:=m∣a-b
theorem Cg.refl (a:Int):Cg m a a:=by unfold Cg;rw[Int.sub_self];exact Int.dvd_zero m
theorem Cg.symm {a b:Int}(h:Cg m a b):Cg m b a:=by
 unfold Cg at *;rw[<- Int.neg_sub];exact p9.mpr h
theorem Cg.trans {a b d:Int}(h:Cg m a b)(g:Cg m b d):Cg m a d:=by
 unfold Cg at *;rw[show a-d=(a-b)+(b-d) by omega];exact sw h g
theorem Cg.add {a b a' b':Int}(h:Cg m a b)(g:Cg m a' b'):Cg m (a+a') (b+b'):=by
 unfold Cg at *;rw[show a+a'-(b+b')=(a-b)+(a'-b') by omega];exact sw h g
theorem Cg.mul {a b a' b':Int}(h:Cg m a b)(g:Cg m a' b'):Cg m (a*a') (b*b'):=by
 unfold Cg at *;rw[show a*a'-b*b'=(a-b)*a'+b*(a'-b') by rw[nc,Int.mul_sub];omega];exact sw (n0 h) (nh g)
theorem Cg.sub {a b a' b':Int}(h:Cg m a b)(g:Cg m a' b'):Cg m (a-a') (b-b'):=by
 unfold Cg at *;rw[show a-a'-(b-b')=(a-b)-(a'-b') by omega];exact Int.dvd_sub h g
theorem Cg.neg {a b:Int}(h:Cg m a b):Cg m (-a) (-b):=by
 have:=(Cg.refl (m:=m) 0).sub h
 rwa [mi,mi] at this
theorem pO (a:Int):Cg m (a % m) a:=by
 unfold Cg;rw[Int.emod_def];rw[show a-m*(a/m)-a = -(m*(a/m)) by omega];exact p9.mpr (re ..)
theorem Ow:∀ {n:Nat},(∀ j,j<n->Cg m (f j) (g j))->Cg m (cX n f) (cX n g)
 | 0,_=>Cg.refl _
 | n+1,h=>(Ow (n:=n) fun j hj=>h j (by omega)).add (h n (by omega))
theorem yC:∀ {n:Nat} {A B:Mx},(∀ i k,i<n->k<n->Cg m (A i k) (B i k))->Cg m (det n A) (det n B)
 | 0,_,_,_=>Cg.refl _
 | n+1,A,B,h=>Ow fun j hj=>(Cg.refl _).mul ((h 0 j (by omega) hj).mul (yC fun i k hi hk=>h (i+1) (sk j k) (by omega) (Nx hk)))
theorem Mr {t:Nat->Int}(h:∀ i,i<n->m∣A (i+1) 0-t i*A 0 0):Cg m (det (n+1) A) (A 0 0*det n fun i k=>A (i+1) (k+1)-t i*A 0 (k+1)):=by
 rw[<- Qf (n:=n+1) (A:=A) (t:=fun i=>t (i-1)) (m:=n+1) (af _)];refine (yC (B:=fun i k=>if i=0 then A 0 k else if k=0 then 0 else A i k-t (i-1)*A 0 k) fun i k hi hk=>?_).trans ?_
 ·by_cases h0:i=0
  ·subst h0
   rw[if_neg (by omega),if_pos rfl];exact Cg.refl _
  ·rw[if_pos (by omega),if_neg h0]
   by_cases hk0:k=0
   ·subst hk0
    rw[if_pos rfl]
    have:=h (i-1) (by omega)
    rw[show i-1+1=i by omega] at this;unfold Cg;rw[mj];exact this
   ·rw[if_neg hk0]
    exact Cg.refl _
 ·rw[Yg fun i _=>by rw[if_neg (by omega),if_pos rfl]]
  rw[if_pos rfl];have e:det n (fun i k=>if i+1=0 then A 0 (k+1) else if k+1=0 then 0 else A (i+1) (k+1)-t (i+1-1)*A 0 (k+1))=det n fun i k=>A (i+1) (k+1)-t i*A 0 (k+1):=bR fun i k _ _=>by rw[if_neg (by omega),if_neg (by omega)];rfl
  rw[e];exact Cg.refl _
def mv (p:Nat)(A:Mx):Mx:=fun i k=>if i=0 then A p k else if i<=p then A (i-1) k else A i k
theorem Ls:∀ {p:Nat} {A:Mx},p<n->det n (mv p A)=sg p*det n A
 | 0,A,h=>by
  rw[show sg 0=1 from rfl,jf];exact bR fun i k _ _=>by
   unfold mv;by_cases h0:i=0
   ·rw[if_pos h0,h0]
   ·rw[if_neg h0,if_neg (by omega)]
 | p+1,A,h=>by
  have ih:=Ls (p:=p) (A:=fun i k=>A (tr p i) k) (by omega);rw[swap h] at ih;rw[Hq,su,<- Int.mul_neg,<- ih];refine bR fun i k _ _=>?_
  unfold mv tr
  dsimp only
  by_cases h0:i=0
  ·rw[if_pos h0,if_pos h0,if_pos rfl]
  ·rw[if_neg h0,if_neg h0]
   by_cases h1:i<=p
   ·rw[if_pos (by omega),if_pos h1,if_neg (by omega),if_neg (by omega)]
   ·by_cases h2:i=p+1
    ·subst h2
     rw[if_pos (by omega),if_neg (by omega),if_neg (by omega),if_pos rfl];rfl
    ·rw[if_neg (by omega),if_neg h1,if_neg (by omega),if_neg h2]
end
def sN:Nat->(Nat->Nat)->Nat
 | 0,_=>0
 | n+1,f=>sN n f+f n
def pN:Nat->(Nat->Nat)->Nat
 | 0,_=>1
 | n+1,f=>f 0*pN n fun i=>f (i+1)
section
variable {n N p q i j k l:Nat}{A B:Mx}{f g:Nat->Nat}{c m:Int}
theorem Qw:∀ {n:Nat},(∀ j,j<n->f j<=g j)->sN n f<=sN n g
 | 0,_=>af _
 | n+1,h=>mw (Qw fun j hj=>h j (by omega)) (h n (by omega))
theorem Dn {c:Nat}:∀ {n:Nat},sN n (fun j=>f j*c)=sN n f*c
 | 0=>by show 0=0*c;omega
 | n+1=>by
  show sN n (fun j=>f j*c)+f n*c=(sN n f+f n)*c;rw[Dn (n:=n),g8]
theorem Vc:∀ {n:Nat} {f g:Nat->Nat},(∀ j,j<n->f j<=g j)->pN n f<=pN n g
 | 0,_,_,_=>af _
 | n+1,f,g,h=>fg (h 0 (by omega)) (Vc fun j hj=>h (j+1) (by omega))
theorem Ic {f:Nat->Int}:∀ {n:Nat},(cX n f).natAbs<=sN n fun j=>(f j).natAbs
 | 0=>af _
 | n+1=>by
  have:=Ic (f:=f) (n:=n)
  have h2:=Int.natAbs_add_le (cX n f) (f n);show (cX n f+f n).natAbs<=sN n (fun j=>(f j).natAbs)+(f n).natAbs;omega
theorem Vj {f:Nat->Nat}{j:Nat}:∀ {n:Nat},sN n (fun k=>f (sk j k))<=sN (n+1) f
 | 0=>b6 _
 | n+1=>by
  show sN n (fun k=>f (sk j k))+f (sk j n)<=sN (n+1) f+f (n+1);by_cases h:n<j
  ·have e:∀ m,m<=n+1->sN m (fun k=>f (sk j k))=sN m f:=fun m=>by
    induction m with
    | zero=>intro _;rfl
    | succ m ih =>
     intro hm;show sN m (fun k=>f (sk j k))+f (sk j m)=sN m f+f m;rw[ih (by omega),show sk j m=m by unfold sk;rw[if_pos (by omega)]]
   have:=e (n+1) (af _)
   have e2:sN (n+1) (fun k=>f (sk j k))=sN n (fun k=>f (sk j k))+f (sk j n):=rfl;omega
  ·have:=Vj (j:=j) (f:=f) (n:=n)
   rw[show sk j n=n+1 by unfold sk;rw[if_neg h]];omega
theorem Wh:(sg j).natAbs=1:=by unfold sg;split <;> rfl
theorem wJ:∀ {n:Nat} {A:Mx},(det n A).natAbs<=pN n fun i=>sN n fun k=>(A i k).natAbs
 | 0,_=>af _
 | n+1,A=>by
  refine av Ic ?_;show _<=sN (n+1) (fun k=>(A 0 k).natAbs)*pN n fun i=>sN (n+1) fun k=>(A (i+1) k).natAbs
  rw[<- Dn];refine Qw fun j _=>?_
  rw[mx,mx,Wh,fo];exact i7 _ (av wJ (Vc fun i _=>Vj (f:=fun k=>(A (i+1) k).natAbs)))
def ent (M:List (List Int)):Mx:=fun i k=>(M.getD i []).getD k 0
theorem wE {α:Type}{M:List α}{d:α}(i:Nat):(M.eraseIdx p).getD i d=M.getD (if i<p then i else i+1) d:=by
 rw[ai,ai,ky];split <;> rfl
theorem Tk {M:List (List Int)}{u:List Int->List Int}(h:i<M.length):(M.map u).getD i []=u (M.getD i []):=by
 rw[ai,ai,ah,aa h];rfl
theorem elim {M:List (List Int)}{top:List Int}{back:Int}{t:List Int->Int}{low:List Int->List Int}(hp:p<n+1)(hM:M.length=n+1)(htop:∀ k,k<n+1->Cg m (top.getD k 0) ((M.getD p []).getD k 0))(hb:Cg m (top.getD 0 0*back) 1)
  (ht:∀ r∈M,Cg m (t r) (r.getD 0 0*back)) (hlow:∀ r∈M,∀ k,k<n->(low r).getD k 0=r.getD (k+1) 0-t r*top.getD (k+1) 0):Cg m (det (n+1) (ent M)) (sg p*(top.getD 0 0*det n (ent ((M.eraseIdx p).map low)))):=by
 have e1:det (n+1) (ent M)=sg p*det (n+1) (mv p (ent M)):=by
  rw[Ls hp,<- dm,Zg,jf]
 have mem:∀ i,i<n->(M.eraseIdx p).getD i []∈M:=fun i hi=>by
  rw[wE];split
  ·rw[ai,aa (by omega)]
   exact cy _
  ·rw[ai,aa (by omega)]
   exact cy _
 have row:∀ i k,i<n->mv p (ent M) (i+1) k=((M.eraseIdx p).getD i []).getD k 0:=fun i k hi=>by
  unfold mv ent;rw[if_neg (by omega),wE];by_cases h:i<p
  ·rw[if_pos (by omega),if_pos h]
   rfl
  ·rw[if_neg (by omega),if_neg h]
 rw[e1];refine (Cg.refl _).mul ?_;refine (yC (B:=fun i k=>if i=0 then top.getD k 0 else mv p (ent M) i k) fun i k hi hk=>?_).trans ?_
 ·by_cases h0:i=0
  ·subst h0
   rw[if_pos rfl];exact (htop k hk).symm
  ·rw[if_neg h0]
   exact Cg.refl _
 ·refine (Mr (t:=fun i=>t ((M.eraseIdx p).getD i [])) fun i hi=>?_).trans ?_
  ·rw[if_neg (by omega),if_pos rfl,row i 0 hi]
   have h1:=ht _ (mem i hi);have h2:=(h1.mul (Cg.refl (top.getD 0 0))).trans (b:=((M.eraseIdx p).getD i []).getD 0 0*back*top.getD 0 0) (d:=((M.eraseIdx p).getD i []).getD 0 0*1) (by
    rw[dm,gq back];exact (Cg.refl _).mul hb)
   rw[lx] at h2;exact h2.symm
  ·rw[if_pos rfl]
   refine (Cg.refl _).mul ?_;rw[bR (B:=ent ((M.eraseIdx p).map low)) fun i k hi hk=>?_]
   ·exact Cg.refl _
   ·rw[if_neg (by omega),if_pos rfl,row i (k+1) hi]
    unfold ent;rw[Tk (by rw[ir];split <;> omega),hlow _ (mem i hi) k hk]
theorem Zu {M:List (List Int)}(h:∀ r∈M,m∣r.getD 0 0)(hM:M.length=n+1):Cg m (det (n+1) (ent M)) 0:=by
 rw[<- Xk (n:=n) (A:=fun i k=>if k=0 then 0 else ent M i k) fun i _=>if_pos rfl];refine yC fun i k hi hk=>?_
 by_cases hk0:k=0
 ·subst hk0
  rw[if_pos rfl];unfold Cg ent;rw[mj];refine h _ ?_;rw[ai,aa (by omega)];exact cy _
 ·rw[if_neg hk0]
  exact Cg.refl _
theorem Sw:∀ {r:List Int} {n:Nat},r.length=n->(((r.map fun x=>if x<0 then -x else x).sum:Int))=((sN n fun k=>(r.getD k 0).natAbs:Nat):Int):=by
 intro r
 induction r with
 | nil=>intro n h;subst h;rfl
 | cons x r ih =>
  intro n h;subst h;have key:∀ (n:Nat) (f:Nat->Nat),sN (n+1) f=f 0+sN n fun k=>f (k+1):=fun n=>by
   induction n with
   | zero=>intro f;show 0+f 0=f 0+0;omega
   | succ n ih2 =>
    intro f;show sN (n+1) f+f (n+1)=f 0+(sN n (fun k=>f (k+1))+f (n+1));rw[ih2];omega
  rw[ap,bz,ih rfl,aq,key];show (if x<0 then -x else x)+_=(((x.natAbs+sN r.length fun k=>(r.getD k 0).natAbs:Nat)):Int);rw[l7]
  congr 1
  split <;> omega
end
end Dt
namespace Wd
def bX (t:W)(n i:Nat):W:=(cp n).map fun k=>t.getD ((i+k) % t.length) 0
theorem hV (t:W)(n i:Nat):(bX t n i).length=n:=by rw[bX,aR,dw]
theorem tX {t:W}{n i k:Nat}(h:k<n)(ht:0<t.length):(bX t n i)[k]?=t[(i+k) % t.length]?:=by
 rw[bX,ah,gf h];show some (t.getD ((i+k) % t.length) 0)=_;rw[ai,aa (jx _ ht)];rfl
theorem Dd {t:W}{n i:Nat}(h:i+n<=t.length):(t.drop i).take n=bX t n i:=by
 apply Tn
 ·rw[a6,a9,hV]
  omega
 ·intro k hk
  rw[a6,a9] at hk;rw[d7 (by omega),gk,tX (by omega) (by omega),et (by omega)]
def kE (t:W)(n:Nat):List W:=(cp (t.length+1-n)).map (bX t n)
def dG (t:W)(n:Nat):List W:=(cp t.length).map (bX t n)
theorem gO (t:W)(n:Nat):(dG t n).length=t.length:=by rw[dG,aR,dw]
theorem Fj {t:W}{n i:Nat}:bX t n (i % t.length)=bX t n i:=by
 unfold bX;refine ay fun k _=>?_
 rw[tq]
theorem wB {t:W}{n i:Nat}(h:i<t.length):(dG t n)[i]?=some (bX t n i):=by
 rw[dG,ah,gf h];rfl
theorem dI:∀ {xs ys:List W},xs.Perm ys->xs.Pairwise (fun a b=>¬ b<a)->ys.Pairwise (fun a b=>¬ b<a)->xs=ys:=by
 intro xs ys h h1 h2;refine List.Perm.eq_of_pairwise ?_ h1 h2 h;intro a b _ _ z1 z2;exact jg a b z2 z1
end Wd
namespace Hg
variable {bg en:List Nat->List Nat}
inductive Rch (bg en:List Nat->List Nat)(ms:List (List Nat))(p:List Nat):List Nat->Prop
 | self:Rch bg en ms p p
 | fw {w:List Nat}:w∈ms->Rch bg en ms p (bg w)->Rch bg en ms p (en w)
 | bw {w:List Nat}:w∈ms->Rch bg en ms p (en w)->Rch bg en ms p (bg w)
def Cl (bg en:List Nat->List Nat)(ls:List (List Nat))(w:List Nat):Prop:=bg w∈ls↔en w∈ls
theorem Rch.inside {ms ls:List (List Nat)}{p z:List Nat}(hp:p∈ls)(hc:∀ w∈ms,Cl bg en ls w)(h:Rch bg en ms p z):z∈ls:=by
 induction h with
 | self=>exact hp
 | fw hw _ ih=>exact (hc _ hw).mp ih
 | bw hw _ ih=>exact (hc _ hw).mpr ih
def pE (ls:List (List Nat))(t:List Nat):List (List Nat):=if t∈ls then ls else ls++[t]
theorem lC {ls:List (List Nat)}{t z:List Nat}:z∈pE ls t↔z∈ls∨z=t:=by
 unfold pE;split
 ·rename_i h
  exact⟨.inl,fun g=>g.elim id fun e=>e▸h⟩
 ·rw[bu,a7]
theorem Hn {ls:List (List Nat)}{t:List Nat}(h:ls.Nodup):(pE ls t).Nodup:=by
 unfold pE;split
 ·exact h
 ·rename_i g
  refine d9.mpr ⟨h,by simp,fun a ha b hb e=>?_⟩;rw[a7] at hb;exact g (hb▸e▸ha)
theorem Aw (ls:List (List Nat))(t:List Nat):ls <+: pE ls t:=by
 unfold pE;split
 ·exact sh _
 ·exact List.prefix_append ..
theorem Bv (ls:List (List Nat))(t:List Nat):(pE ls t).length<=ls.length+1:=by
 unfold pE;split
 ·omega
 ·simp
structure Pass (bg en:List Nat->List Nat)(ms:List (List Nat))(p:List Nat)(fs:List (List Nat))(i:Nat)(ls:List (List Nat)):Prop where
 nd:ls.Nodup
 pre:fs <+: ls
 rch:∀ z∈ls,Rch bg en ms p z
 cl:ls.length=fs.length->∀ w∈ms.take i,Cl bg en fs w
theorem Pass.zero {ms fs:List (List Nat)}{p:List Nat}(nd:fs.Nodup)(rch:∀ z∈fs,Rch bg en ms p z):Pass bg en ms p fs 0 fs:=⟨nd,sh _,rch,fun _ w hw=>by rw[jc] at hw;cases hw⟩
theorem Ai {ms:List (List Nat)}{i:Nat}{w v:List Nat}(h:ms[i]?=some w)(hv:v∈ms.take (i+1)):v∈ms.take i∨v=w:=by
 rw[ca,h,bu] at hv;rcases hv with z | z
 ·exact .inl z
 ·exact .inr (by simpa using z)
theorem Pass.yes {ms fs ls:List (List Nat)}{p w:List Nat}{i:Nat}(h:Pass bg en ms p fs i ls)(hw:ms[i]?=some w)(hi:bg w∈ls∨en w∈ls):Pass bg en ms p fs (i+1) (pE (pE ls (bg w)) (en w)):=by
 have hm:=au hw;have p1:=(Aw ls (bg w)).trans (Aw (pE ls (bg w)) (en w));refine⟨Hn (Hn h.nd),h.pre.trans p1,fun z hz=>?_,fun e v hv=>?_⟩
 ·rw[lC,lC] at hz
  have hb:Rch bg en ms p (bg w)∧Rch bg en ms p (en w):=by
   rcases hi with g | g
   ·exact⟨h.rch _ g,.fw hm (h.rch _ g)⟩
   ·exact⟨.bw hm (h.rch _ g),h.rch _ g⟩
  rcases hz with (z | rfl) | rfl
  ·exact h.rch _ z
  ·exact hb.1
  ·exact hb.2
 ·have l1:=h.pre.length_le
  have l2:=p1.length_le;have e1:ls.length=fs.length:=by omega
  rcases Ai hw hv with g | rfl
  ·exact h.cl e1 v g
  ·have q1:=h.pre.eq_of_length (by omega)
   have q2:=p1.eq_of_length (by omega);subst q1;have m1:bg v∈fs:=by rw[q2,lC,lC];exact .inl (.inr rfl)
   have m2:en v∈fs:=by rw[q2,lC];exact .inr rfl
   exact⟨fun _=>m2,fun _=>m1⟩
theorem Pass.no {ms fs ls:List (List Nat)}{p w:List Nat}{i:Nat}(h:Pass bg en ms p fs i ls)(hw:ms[i]?=some w)(h1:¬ bg w∈ls)(h2:¬ en w∈ls):Pass bg en ms p fs (i+1) ls:=by
 refine⟨h.nd,h.pre,h.rch,fun e v hv=>?_⟩;rcases Ai hw hv with g | rfl
 ·exact h.cl e v g
 ·exact⟨fun z=>absurd (h.pre.subset z) h1,fun z=>absurd (h.pre.subset z) h2⟩
def Vx (bg en:List Nat->List Nat)(ms:List (List Nat)):List (List Nat):=ms.map bg++ms.map en
theorem Ed {ms:List (List Nat)}{p z:List Nat}(h:Rch bg en ms p z):z=p∨z∈Vx bg en ms:=by
 cases h with
 | self=>exact .inl rfl
 | fw hw _=>exact .inr (bu.mpr (.inr (gg hw)))
 | bw hw _=>exact .inr (bu.mpr (.inl (gg hw)))
theorem kI {α:Type}[BEq α][LawfulBEq α]:∀ {ls ms:List α},ls.Nodup->(∀ z∈ls,z∈ms)->ls.length<=ms.length
 | [],_,_,_=>b6 _
 | a::ls,ms,h,hs=>by
  rw[bv] at h;have ha:=hs a (al ..);have ih:=kI (ls:=ls) (ms:=ms.erase a) h.2 fun z hz=>(qa (fun e:z=a=>h.1 (e▸hz))).mpr (hs z (aj _ hz))
  have:=kc ha
  have:=dl ha
  rw[aq];omega
theorem Lm {ms ls:List (List Nat)}{p:List Nat}(h:ls.Nodup)(hr:∀ z∈ls,Rch bg en ms p z):ls.length<=2*ms.length+1:=by
 have:=kI (ms:=p::Vx bg en ms) h fun z hz=>ar.mpr (Ed (hr z hz))
 unfold Vx at this;rw[aq,ak,aR,aR] at this;omega
end Hg
namespace Dt
def dC (N:Nat):Prop:=1<N∧∀ x,0<x->x<N->i8 x N=1
section
variable {N F b d e n:Nat}
def pm (N:Nat):Nat->Nat->Nat->Nat
 | 0,_,_=>1 % N
 | f+1,b,e=>if e=0 then 1 % N else if e % 2=1 then b*pm N f (b*b % N) (e/2) % N else pm N f (b*b % N) (e/2)
theorem zX (N b e:Nat):(b*b % N) ^ e % N=b ^ (2*e) % N:=by
 rw[<- sx,jy,Nat.pow_two]
theorem Hw:∀ (f b e:Nat),e<2 ^ f->pm N f b e=b ^ e % N
 | 0,b,e,h=>by
  obtain rfl:e=0:=by simpa using h
  rfl
 | f+1,b,e,h=>by
  unfold pm;by_cases h0:e=0
  ·rw[if_pos h0,h0,Nat.pow_zero]
  ·rw[if_neg h0]
   have ih:=Hw f (b*b % N) (e/2) (by rw[j5] at h;omega);by_cases h1:e % 2=1
   ·rw[if_pos h1,ih,jz,sy,zX,<- jz,dh,<- j5]
    congr 2
    omega
   ·rw[if_neg h1,ih,zX]
    congr 2
    omega
theorem Tv {b d:Nat}(hd:1<d){x y:Nat}(hx:b ^ x % d=1)(hy:b ^ y % d=1):b ^ (y % x) % d=1:=by
 have e:b ^ y=(b ^ x) ^ (y/x)*b ^ (y % x):=by rw[<- jy,<- jh,o9]
 rw[e,jz,sx,hx,Nat.one_pow,et hd,fo,sy] at hy;exact hy
theorem Uc {b d:Nat}(hd:1<d):∀ (x y:Nat),b ^ x % d=1->b ^ y % d=1->b ^ (i8 x y) % d=1:=fun x y=>by
 induction x,y using Nat.gcd.induction with
 | H0 y=>intro _ h;rw[Nat.gcd_zero_left];exact h
 | H1 x y hx ih =>
  intro h1 h2;rw[qb];exact ih (Tv hd h1 h2) h1
theorem qJ (rs:List Nat)(hN:1<N)(hF:N<=F*F)(h1:b ^ F % N=1)(h2:∀ r∈rs,i8 (b ^ (F/r) % N+(N-1)) N=1)(h3:∀ g,g∣F->g<F->∃ r∈rs,g∣F/r):dC N:=by
 have key:∀ d,d∣N->1<d->F<d:=fun d hdN hd=>by
  have hdF:b ^ F % d=1:=by
   have:=qp (b ^ F) hdN
   rw[h1,et hd] at this;exact this.symm
  have no:∀ e,0<e->e<F->b ^ e % d≠1:=fun e he heF hc=>by
   have hg:=Uc hd e F hc hdF;have hgF:=js e F;have hge:i8 e F<=e:=tu F he;obtain⟨r,hr,hgr⟩:=h3 _ hgF (by omega);obtain⟨q,hq⟩:=hgr;have hFr:b ^ (F/r) % d=1:=by rw[hq,jy,sx,hg,Nat.one_pow,et hd]
   have hdd:d∣b ^ (F/r) % N+(N-1):=by
    have e1:b ^ (F/r) % N % d=1:=by rw[qp _ hdN];exact hFr
    refine jj ?_;have e2:(b ^ (F/r) % N+(N-1)) % d=(1+(N-1)) % d:=by rw[Nat.add_mod,e1,Nat.add_mod_mod]
    rw[e2,show 1+(N-1)=N by omega];exact Nat.mod_eq_zero_of_dvd hdN
   have:=Nat.dvd_gcd hdd hdN
   rw[h2 r hr] at this
   have:=uw (by omega) this
   omega
  have inj:((cp F).map fun i=>b ^ i % d).Nodup:=by
   refine de.mpr (fh (fun {i j} hi hj hij he=>?_) k7);have hj:j<F:=cr.mp hj;refine no (j-i) (by omega) (by omega) ?_;have a1:b ^ (F-i)*b ^ i % d=1:=by rw[<- jh,ib (by omega)];exact hdF
   have a2:b ^ (F-i)*b ^ j % d=b ^ (j-i) % d:=by
    rw[<- jh,show F-i+j=F+(j-i) by omega,jh,jz,hdF,fo,sy]
   rw[<- a2,jz,<- he,<- jz];exact a1
  have sub:∀ z∈(cp F).map (fun i=>b ^ i % d),z∈tf 1 (d-1):=fun z hz=>by
   obtain⟨i,hi,rfl⟩:=ao.mp hz;have hi:i<F:=cr.mp hi;rw[List.mem_range'_1];have hlt:=jx (b ^ i) (show d>0 by omega);have hnz:b ^ i % d≠0:=fun z=>by
    have a1:b ^ (F-i)*b ^ i % d=1:=by rw[<- jh,ib (by omega)];exact hdF
    rw[jz,z,rf,Nat.zero_mod] at a1;cases a1
   omega
  have:=Hg.kI inj sub
  rw[aR,dw,qq] at this;omega
 refine⟨hN,fun x h0 hx=>?_⟩;refine a5 fun hg=>?_
 have hgN:=js x N;have hgx:i8 x N<=x:=tu N h0;have hgp:0<i8 x N:=Nat.gcd_pos_of_pos_left N h0;obtain⟨c,hc⟩:=hgN;have k1:=key _ (js x N) (by omega);have hc1:1<c:=by
  rcases gt 1 c with z | z
  ·exact z
  ·have:i8 x N*c<=i8 x N*1:=i7 _ z
   omega
 have k2:=key c ⟨_,by rw[dh];exact hc⟩ hc1
 have:=Nat.mul_lt_mul'' k1 k2
 omega
theorem Nu {k g:Nat}(h:g∣2 ^ (k+1))(hl:g<2 ^ (k+1)):g∣2 ^ (k+1)/2:=by
 obtain⟨c,hc⟩:=h;have hc2:c % 2=0:=by
  refine a5 fun z=>?_
  have hco:Nat.Coprime c 2:=by
   show i8 c 2=1;rw[Nat.gcd_comm,qb,show c % 2=1 by omega];rfl
  have h1:=Nat.Coprime.pow_right (k+1) hco;have h2:c∣2 ^ (k+1):=⟨g,by rw[hc,dh]⟩;have h3:=Nat.Coprime.eq_one_of_dvd h1 h2;rw[h3,qc] at hc;omega
 refine⟨c/2,?_⟩;rw[hc]
 have:c=2*(c/2):=by omega
 rw[Nat.mul_div_assoc _ (jj hc2)]
theorem sM (h k:Nat)(hh:h<2 ^ (k+1))(h0:0<h)(hp:pm (h*2 ^ (k+1)+1) (k+1+k+1) 3 (h*2 ^ k)=h*2 ^ (k+1)):dC (h*2 ^ (k+1)+1):=by
 have hpos:0<2 ^ k:=qd (by decide);have hs:2 ^ (k+1)=2*2 ^ k:=by rw[j5,dh]
 have hN:1<h*2 ^ (k+1)+1:=by have:=ti h0 (qd (n:=k+1) (show 0<2 by decide));omega
 have hlt:h*2 ^ k<2 ^ (k+1+k+1):=by
  have:=Nat.mul_lt_mul_of_lt_of_le hh (af (2 ^ k)) hpos
  rw[<- jh] at this;exact rh this (ly (by decide) (by omega))
 rw[Hw _ _ _ hlt] at hp;refine qJ (F:=2 ^ (k+1)) (b:=3 ^ h) [2] hN ?_ ?_ ?_ fun g hg hl=>⟨2,by simp,Nu hg hl⟩
 ·have:=fq (2 ^ (k+1)) (show h+1<=2 ^ (k+1) from hh)
  rw[g8] at this
  have:=qd (n:=k+1) (show 0<2 by decide)
  omega
 ·have e3:3 ^ (h*2 ^ (k+1))=3 ^ (h*2 ^ k)*3 ^ (h*2 ^ k):=by
   rw[hs,show h*(2*2 ^ k)=h*2 ^ k*2 by rw[dh 2,dy],jy,Nat.pow_two]
  rw[<- jy,e3,jz,hp];have e:∀ x:Nat,0<x->x*x % (x+1)=1:=fun x hx=>by
   rw[show x*x=1+(x+1)*(x-1) by
    have:x*x=(x-1+1)*x:=by rw[ib hx]
    have h2:(x+1)*(x-1)=x*(x-1)+(x-1):=by rw[g8,fo]
    have h3:x*x=x*(x-1)+x:=by
     have:x*x=x*(x-1+1):=by rw[ib hx]
     rw[this,tj,qc]
    omega,Nat.add_mul_mod_self_left,et (by omega)]
  exact e _ (ti h0 (qd (by decide)))
 ·intro r hr
  obtain rfl:=a7.mp hr;rw[<- jy,hs,n6 _ (by decide),<- hs,hp,qo];have e:∀ x:Nat,x % 2=0->i8 (x+x) (x+1)=1:=fun x hx=>by
   have:i8 (x+x) (x+1)∣2:=by
    have a1:=Nat.gcd_dvd_left (x+x) (x+1);have a2:=js (x+x) (x+1);have a3:=Nat.dvd_sub (Nat.dvd_mul_left_of_dvd a2 2) a1;rw[show 2*(x+1)-(x+x)=2 by omega] at a3;exact a3
   have hle:=uw (by decide) this;have hpos:=Nat.gcd_pos_of_pos_right (x+x) (show 0<x+1 by omega);rcases gt (i8 (x+x) (x+1)) 2 with z | z
   ·omega
   ·have e2:i8 (x+x) (x+1)=2:=by omega
    have a2:=js (x+x) (x+1);rw[e2] at a2;omega
  refine e _ ?_;rw[hs,<- dy,dh h 2,dy];exact Nat.mul_mod_right ..
theorem Yf:dC (133*2 ^ 192+1):=sM 133 191 (by decide +kernel) (by decide) (by decide +kernel)
def Dl (N:Nat):Bool:=decide (1<N)&&(cp N).all fun x=>x==0||i8 x N==1
theorem Jw (h:Dl N=true):dC N:=by
 unfold Dl at h;rw[c7,decide_eq_true_iff,ft] at h;refine⟨h.1,fun x h0 hx=>?_⟩
 have:=h.2 x (cr.mpr hx)
 rw[jm,beq_iff_eq,beq_iff_eq] at this;omega
theorem dC.cop {r c:Nat}(h:dC r)(hc:¬ r∣c):Nat.Coprime c r:=by
 show i8 c r=1;rw[Nat.gcd_comm,qb];have h1:=h.1;exact h.2 (c % r) (jk fun z=>hc (jj z)) (jx _ (by omega))
theorem Bq:∀ (rs:List Nat),(∀ r∈rs,dC r)->∀ c,c∣rs.prod->c≠1->∃ r∈rs,r∣c
 | [],_,c,h,h1=>absurd (Nat.eq_one_of_dvd_one h) h1
 | r::rs,hp,c,h,h1=>by
  by_cases hr:r∣c
  ·exact⟨r,by simp,hr⟩
  ·rw[List.prod_cons] at h
   obtain⟨r',h2,h3⟩:=Bq rs (fun x hx=>hp x (aj _ hx)) c (Nat.Coprime.dvd_of_dvd_mul_left ((hp r (by simp)).cop hr) h) h1;exact⟨r',aj _ h2,h3⟩
theorem aAf:dC 2305843009213693951:=by
 have ps:∀ r∈[61,151,331,1321],dC r:=fun r hr=>Jw (by
  have:∀ r∈[61,151,331,1321],Dl r=true:=by decide +kernel
  exact this r hr)
 refine qJ (F:=4027518961) (b:=429339995019680672) [61,151,331,1321] (by decide) (by decide) ?_ ?_ fun g hg hl=>?_
 ·rw[<- Hw 32 _ _ (by decide)]
  decide +kernel
 ·intro r hr
  have key:∀ r∈[61,151,331,1321],i8 (pm 2305843009213693951 32 429339995019680672 (4027518961/r)+(2305843009213693951-1)) 2305843009213693951=1:=by decide +kernel
  rw[<- Hw 32 _ _ (eh (tw _ _) (by decide))];exact key r hr
 ·obtain⟨c,hc⟩:=hg
  have hF:([61,151,331,1321]:List Nat).prod=4027518961:=by decide
  obtain⟨r,hr,q,rfl⟩:=Bq _ ps c (by rw[hF];exact⟨g,by rw[hc,dh]⟩) fun z=>by rw[z,qc] at hc;omega
  have h0:=(ps r hr).1;refine⟨r,hr,q,?_⟩;rw[hc,show g*(r*q)=r*(g*q) by rw[<- dy,dh g r,dy],n6 _ (by omega)]
theorem Zf:dC (211*2 ^ 192+1):=sM 211 191 (by decide +kernel) (by decide) (by decide +kernel)
theorem Zh:dC (598*2 ^ 192+1):=sM 598 191 (by decide +kernel) (by decide) (by decide +kernel)
theorem aAD:dC (652*2 ^ 192+1):=sM 652 191 (by decide +kernel) (by decide) (by decide +kernel)
theorem Yp:dC (721*2 ^ 192+1):=sM 721 191 (by decide +kernel) (by decide) (by decide +kernel)
theorem Yo:dC (850*2 ^ 192+1):=sM 850 191 (by decide +kernel) (by decide) (by decide +kernel)
theorem Xt:dC (1282*2 ^ 192+1):=sM 1282 191 (by decide +kernel) (by decide) (by decide +kernel)
structure Euc (pr:Nat)(num:Int)(last rest:Nat)(lt t:Int):Prop where
 pos:1<=rest
 lp:1<=last
 cop:i8 rest last=1
 ct:Cg pr (t*num) rest
 cl:Cg pr (lt*num) last
 bd:t.natAbs*last+lt.natAbs*rest<=pr
theorem Euc.init {pr:Nat}{num:Int}{r:Nat}(h:dC pr)(hr:num % pr=r)(h0:r≠0):Euc pr num pr r 0 1:=by
 have h1:=h.1;have hlt:(r:Int)<pr:=by rw[<- hr];exact cx _ (by omega)
 refine⟨by omega,by omega,h.2 r (by omega) (by omega),?_,?_,by simp⟩
 ·rw[jf,<- hr]
  exact (pO num).symm
 ·rw[oq]
  unfold Cg;rw[mi];exact p9.mpr (Int.dvd_refl _)
theorem Euc.step {pr:Nat}{num:Int}{last rest:Nat}{lt t:Int}(h:Euc pr num last rest lt t)(h1:rest≠1):Euc pr num rest (last % rest) t (lt-(last/rest:Nat)*t):=by
 have hp:=h.pos;have hd:=o9 last rest;have hd2:((last:Nat):Int)=rest*(last/rest:Nat)+(last % rest:Nat):=by exact_mod_cast hd.symm
 refine⟨?_,hp,?_,?_,h.ct,?_⟩
 ·refine jk fun z=>h1 ?_
  have:=h.cop
  rw[Nat.gcd_eq_left (jj z)] at this;exact this
 ·rw[<- qb]
  exact h.cop
 ·have e:(lt-(last/rest:Nat)*t)*num=lt*num-(last/rest:Nat)*(t*num):=by rw[nc,dm]
  rw[e,show ((last % rest:Nat):Int)=(last:Int)-(last/rest:Nat)*(rest:Int) by rw[hd2,gq];omega];exact h.cl.sub ((Cg.refl _).mul h.ct)
 ·have hb:=h.bd
  have a1:(lt-(last/rest:Nat)*t).natAbs<=lt.natAbs+(last/rest)*t.natAbs:=by
   have:=ri lt ((last/rest:Nat)*t)
   rw[mx,ei] at this;exact this
  have a2:=fq rest a1;rw[g8] at a2;have a3:t.natAbs*last=(last/rest)*t.natAbs*rest+t.natAbs*(last % rest):=by
   conv=>lhs;rw[<- hd,tj,<- dy,dh t.natAbs rest,dy,dh rest]
   rw[dh t.natAbs]
  omega
theorem Euc.tle {pr:Nat}{num:Int}{last rest:Nat}{lt t:Int}(h:Euc pr num last rest lt t):t.natAbs<=pr∧lt.natAbs<=pr:=by
 have hb:=h.bd;have h1:=i7 t.natAbs h.lp;have h2:=i7 lt.natAbs h.pos;omega
theorem Euc.fin {pr:Nat}{num:Int}{last rest:Nat}{lt t:Int}(h:Euc pr num last rest lt t)(h1:rest=1):Cg pr (t % pr*num) 1:=by
 have:=h.ct
 rw[h1] at this;exact ((pO t).mul (Cg.refl num)).trans this
theorem crt {M1 pr:Nat}{D res r2 inv:Int}(hM:0<M1)(hp:0<pr)(h1:Cg M1 res D)(h2:Cg pr r2 D)(hi:Cg pr (inv*M1) 1)(h0:0<=res∧res<M1):Cg (M1*pr:Nat) (res+(r2-res)*inv % pr*M1) D∧0<=res+(r2-res)*inv % pr*M1∧res+(r2-res)*inv % pr*M1<(M1*pr:Nat):=by
 have e0:=dk ((r2-res)*inv) (show (pr:Int)≠0 by omega);have e1:=cx ((r2-res)*inv) (show (0:Int)<pr by omega);have hc:=pO (m:=pr) ((r2-res)*inv);generalize (r2-res)*inv % pr=q at e0 e1 hc;refine⟨?_,?_,?_⟩
 ·have a1:Cg M1 (res+q*M1) D:=by
   have:Cg M1 (q*M1) 0:=by
    unfold Cg;rw[mj];exact Int.dvd_mul_left ..
   have:=h1.add this
   rwa [rc] at this
  have a2:Cg pr (res+q*M1) D:=by
   have b1:Cg pr (q*M1) (r2-res):=by
    refine (hc.mul (Cg.refl (M1:Int))).trans ?_;rw[dm]
    have:=(Cg.refl (m:=pr) (r2-res)).mul hi
    rwa [lx] at this
   have:=(Cg.refl (m:=pr) res).add b1
   rw[show res+(r2-res)=r2 by omega] at this;exact this.trans h2
  unfold Cg at a1 a2 hi ⊢;obtain⟨x,hx⟩:=a1;rw[hx] at a2 ⊢;have a3:(pr:Int)∣x:=by
   have c1:(pr:Int)∣inv*(M1*x):=nh a2;have c2:(pr:Int)∣(inv*M1-1)*x:=n0 hi
   have:=Int.dvd_sub c1 c2
   rw[show inv*(M1*x)-(inv*M1-1)*x=x by rw[nc,dm];omega] at this;exact this
  obtain⟨y,rfl⟩:=a3;refine⟨y,?_⟩;rw[<- dm,fk]
 ·have:=Int.mul_nonneg e0 (show (0:Int)<=M1 by omega)
  omega
 ·have a:=lq (show q<=(pr:Int)-1 by omega) (show (0:Int)<=M1 by omega)
  rw[nc,jf] at a;rw[fk,gq (M1:Int)];omega
theorem Jq {M:Nat}{D res bd:Int}(hm:2*bd<M)(hD : -bd<=D∧D<=bd)(h:Cg M res D)(h0:0<=res∧res<M):(if bd<res then res-M else res)=D:=by
 obtain⟨k,hk⟩:=h;have k0:k=0∨k=1:=by
  rcases Int.lt_or_le k 0 with z | z
  ·have:=lz (show k<=-1 by omega) (show (0:Int)<=M by omega)
   omega
  ·rcases Int.lt_or_le 1 k with y | y
   ·have:=lz (show 2<=k by omega) (show (0:Int)<=M by omega)
    omega
   ·omega
 rcases k0 with rfl | rfl
 ·rw[gr] at hk
  rw[if_neg (by omega)];omega
 ·rw[lx] at hk
  rw[if_pos (by omega)];omega
end
theorem Km {pr p:Nat}{rest top0 inv dN dM D:Int}(hr:0<rest∧rest<pr)(hi:Cg pr (inv*top0) 1)(hE:Cg pr dN (sg p*(top0*dM)))(hD:Cg pr (rest*dN) D) :
  (0<(if p % 2=1 then (pr:Int)-rest*top0 % pr else rest*top0 % pr)∧(if p % 2=1 then (pr:Int)-rest*top0 % pr else rest*top0 % pr)<pr)∧Cg pr ((if p % 2=1 then (pr:Int)-rest*top0 % pr else rest*top0 % pr)*dM) D:=by
 have h0:=dk (rest*top0) (show (pr:Int)≠0 by omega);have h1:=cx (rest*top0) (show (0:Int)<pr by omega);have hc:=pO (m:=pr) (rest*top0);have hnz:rest*top0 % pr≠0:=fun z=>by
  rw[z] at hc;have a1:=(hc.mul (Cg.refl (m:=pr) inv));rw[oq,dm,gq top0] at a1;have a2:=(Cg.refl (m:=pr) rest).mul hi;rw[lx] at a2;have a3:=a1.trans a2;unfold Cg at a3;rw[mi] at a3
  have:=Int.le_of_dvd hr.1 (p9.mp a3)
  omega
 generalize rest*top0 % pr=x at h0 h1 hc hnz;have key:Cg pr (x*dM) (rest*(top0*dM)):=by
  rw[<- dm];exact hc.mul (Cg.refl _)
 have hE2:=((Cg.refl (m:=pr) rest).mul hE).symm.trans hD;by_cases hp:p % 2=1
 ·rw[if_pos hp]
  have hs:sg p = -1:=by unfold sg;rw[if_neg (by omega)]
  rw[hs] at hE2;refine⟨⟨by omega,by omega⟩,?_⟩;have a1:Cg pr (((pr:Int)-x)*dM) (-(x*dM)):=by
   unfold Cg;rw[nc,show (pr:Int)*dM-x*dM - -(x*dM)=pr*dM by omega];exact re ..
  refine a1.trans (key.neg.trans ?_);rw[show -(rest*(top0*dM))=rest*(-1*(top0*dM)) by rw[su,jf,Int.mul_neg]];exact hE2
 ·rw[if_neg hp]
  have hs:sg p=1:=by unfold sg;rw[if_pos (by omega)]
  rw[hs,jf] at hE2;exact⟨⟨by omega,h1⟩,key.trans hE2⟩
def pL:List Nat->Nat
 | []=>1
 | x::l=>x*pL l
theorem Ha (x:Nat):∀ l:List Nat,pL (l++[x])=pL l*x
 | []=>by show x*1=1*x;omega
 | y::l=>by
  show y*pL (l++[x])=y*pL l*x;rw[Ha x l,dy]
theorem Rg {R:Nat}:∀ {l:List Nat},(∀ x∈l,x<=R)->pL l<=R ^ l.length
 | [],_=>af _
 | y::l,h=>by
  show y*pL l<=R ^ (l.length+1);rw[j5,dh];exact fg (Rg fun x hx=>h x (aj _ hx)) (h y (al ..))
def rs (n:Nat)(r:List Int):Nat:=sN n fun k=>(r.getD k 0).natAbs
theorem Vg (n:Nat):∀ M:List (List Int),pN M.length (fun i=>sN n fun k=>(ent M i k).natAbs)=pL (M.map (rs n))
 | []=>rfl
 | r::M=>by
  show (sN n fun k=>(ent (r::M) 0 k).natAbs)*pN M.length (fun i=>sN n fun k=>(ent (r::M) (i+1) k).natAbs)=rs n r*pL (M.map (rs n));rw[<- Vg n M];rfl
theorem Lk {f:Nat->Nat}:∀ {n k:Nat},k<n->f k<=sN n f
 | n+1,k,h=>by
  show f k<=sN n f+f n;rcases gt k n with z | z
  ·have:=Lk (f:=f) z
   omega
  ·rw[show k=n by omega]
   omega
theorem Wk {n:Nat}{r:List Int}(hl:r.length=n){x:Int}(hx:x∈r):x.natAbs<=rs n r:=by
 obtain⟨k,hk⟩:=fu hx;have hkl:=(aw.mp hk).1
 have:=Lk (f:=fun k=>(r.getD k 0).natAbs) (n:=n) (k:=k) (by omega)
 rw[ai,hk] at this;exact this
theorem Wr {M:List (List Int)}{n:Nat}(h:M.length=n):(det n (ent M)).natAbs<=pL (M.map (rs n)):=by
 rw[<- Vg,h];exact wJ
def kn:List Nat:=[133,211,598,652,721,850,1282]
def pr (j:Nat):Nat:=kn.getD j 0*2 ^ 192+1
def md:Nat->Nat
 | 0=>2305843009213693951
 | j+1=>md j*pr j
theorem Od:∀ {j:Nat},j<7->dC (pr j)
 | 0,_=>Yf
 | 1,_=>Zf
 | 2,_=>Zh
 | 3,_=>aAD
 | 4,_=>Yp
 | 5,_=>Yo
 | 6,_=>Xt
 | j+7,h=>by omega
theorem Zd:∀ j,j<7->pr j<2 ^ 250∧md j % pr j≠0∧md j<2 ^ 1600∧md (j+1)<2 ^ 1800:=by decide +kernel
section
variable {n m p q i j k l:Nat}{A B T U:Mx}{f g:Nat->Int}{c:Nat->Int}
theorem Bz (h:i<n):det n (cF A i fun _=>0)=0:=by
 have e:=nI (c:=1) (A:=A) (u:=fun _=>0) (v:=fun _=>0) h;rw[show (fun k:Nat=>(0:Int)+1*0)=fun _=>0 from rfl] at e;omega
def pI:Nat->(Nat->Int)->Int
 | 0,_=>1
 | n+1,f=>pI n f*f n
theorem Ci:∀ {n:Nat} {f:Nat->Int},pI (n+1) f=f 0*pI n fun i=>f (i+1)
 | 0,f=>by show 1*f 0=f 0*1;omega
 | n+1,f=>by
  show pI (n+1) f*f (n+1)=f 0*(pI n (fun i=>f (i+1))*f (n+1));rw[Ci (n:=n),dm]
theorem Qg:∀ {n:Nat} {f:Nat->Int},(∀ i,i<n->f i=1)->pI n f=1
 | 0,_,_=>rfl
 | n+1,f,h=>by
  show pI n f*f n=1;rw[Qg (n:=n) fun i hi=>h i (by omega),h n (by omega)];rfl
theorem wM:∀ {n:Nat} {U:Mx},(∀ i k,k<i->i<n->U i k=0)->det n U=pI n fun i=>U i i
 | 0,_,_=>rfl
 | n+1,U,h=>by
  rw[Yg fun i hi=>h (i+1) 0 (by omega) (by omega),wM (n:=n) fun i k h1 h2=>h (i+1) (k+1) (by omega) (by omega),Ci]
end
section
variable {n i j k l m:Nat}{A B:Mx}{f:Nat->Nat}{c:Int}
theorem Nf (hi:i<n)(hj:j<n)(hij:i≠j):det n (cF A i fun k=>A i k+c*A j k)=det n A:=by
 have e:=nI (c:=c) (A:=A) (u:=A i) (v:=A j) hi;have z:det n (cF A i (A j))=0:=by
  rcases gt i j with h | h
  ·refine rN (j-(i+1)) (i:=i) (A:=cF A i (A j)) (by omega) fun k _=>?_
   rw[lM,show i+1+(j-(i+1))=j by omega,jP (by omega)]
  ·refine rN (i-(j+1)) (i:=j) (A:=cF A i (A j)) (by omega) fun k _=>?_
   rw[jP (by omega),show j+1+(i-(j+1))=i by omega,lM]
 rw[z,jF (A i) fun _=>rfl,gr,rc] at e;exact e
def un (i k:Nat):Int:=if k=i then 1 else 0
def chM (n:Nat)(f:Nat->Nat):Mx:=fun i k=>un i k-if f i<n then un (f i) k else 0
def chS (n:Nat)(f:Nat->Nat)(S:Nat->Bool):Mx:=fun i k=>if S i=true then un i k else chM n f i k
theorem oF {S S':Nat->Bool}{a:Nat}(h:S a=S' a):chS n f S a k=chS n f S' a k:=by
 unfold chS;rw[h]
theorem Fr {S:Nat->Bool}(hi:i<n)(hS:S i=false)(hf:f i<n->S (f i)=true):det n (chS n f fun a=>S a||a==i)=det n (chS n f S):=by
 by_cases h:f i<n
 ·have hne:i≠f i:=fun z=>by have:=hf h;rw[<- z,hS] at this;cases this
  rw[<- Nf (A:=chS n f S) (i:=i) (j:=f i) (c:=1) hi h hne];refine bR fun a k _ _=>?_
  unfold cF
  try dsimp only
  by_cases ha:a=i
  ·subst ha
   rw[if_pos rfl];unfold chS
   try dsimp only
   rw[if_pos (by rw[beq_self_eq_true,u5]),if_neg (by rw[hS];exact am),if_pos (hf h)];unfold chM;rw[if_pos h];omega
  ·rw[if_neg ha]
   exact oF (by rw[beq_false_of_ne ha,ix])
 ·refine bR fun a k _ _=>?_
  by_cases ha:a=i
  ·subst ha
   unfold chS
   try dsimp only
   rw[if_pos (by rw[beq_self_eq_true,u5]),if_neg (by rw[hS];exact am)];unfold chM;rw[if_neg h,mj]
  ·exact oF (by rw[beq_false_of_ne ha,ix])
theorem Xq:∀ n:Nat,det n un=1
 | n=>by
  rw[wM (n:=n) fun i k h1 _=>by unfold un;rw[if_neg (by omega)]];exact Qg fun i _=>by unfold un;rw[if_pos rfl]
theorem Wv {d:Nat->Nat}(hd:∀ i,i<n->f i<n->d (f i)<d i):det n (chM n f)=1:=by
 have key:∀ m l,l<=n->det n (chS n f fun a=>decide (d a<m)||(decide (d a=m)&&decide (a<l)))=det n (chM n f):=fun m=>by
  induction m with
  | zero =>
   intro l
   induction l with
   | zero =>
    intro _;refine bR fun a k _ _=>?_
    unfold chS
    try dsimp only
    rw[if_neg (by simp)]
   | succ l ih =>
    intro hl;rw[<- ih (by omega)];by_cases h:d l=0
    ·have:=Fr (n:=n) (f:=f) (i:=l) (S:=fun a=>decide (d a<0)||(decide (d a=0)&&decide (a<l))) (by omega) (by simp) (fun hf=>by have:=hd l (by omega) hf;omega)
     rw[<- this]
     congr 2
     funext a
     by_cases ha:a=l
     ·subst ha
      simp[h]
     ·have e:decide (a<l+1)=decide (a<l):=by rw[decide_eq_decide];omega
      rw[e,beq_false_of_ne ha,ix]
    ·congr 2
     funext a
     by_cases ha:a=l
     ·subst ha
      simp[h]
     ·have e:decide (a<l+1)=decide (a<l):=by rw[decide_eq_decide];omega
      rw[e]
  | succ m ihm =>
   intro l
   induction l with
   | zero =>
    intro _;rw[<- ihm n (af n)];refine bR fun a k ha _=>?_
    have e:(decide (d a<m+1)||(decide (d a=m+1)&&decide (a<0)))=(decide (d a<m)||(decide (d a=m)&&decide (a<n))):=by
     rw[decide_eq_false (show ¬ a<0 by omega),decide_eq_true ha,jb,ix,Bool.and_true,c9,jm,decide_eq_true_iff,decide_eq_true_iff,decide_eq_true_iff];omega
    exact oF e
   | succ l ih =>
    intro hl;rw[<- ih (by omega)];by_cases h:d l=m+1
    ·have:=Fr (n:=n) (f:=f) (i:=l) (S:=fun a=>decide (d a<m+1)||(decide (d a=m+1)&&decide (a<l))) (by omega) (by simp[h]) (fun hf=>by
      have:=hd l (by omega) hf
      have:d (f l)<m+1:=by omega
      simp[this])
     rw[<- this]
     congr 2
     funext a
     by_cases ha:a=l
     ·subst ha
      simp[h]
     ·have e:decide (a<l+1)=decide (a<l):=by rw[decide_eq_decide];omega
      rw[e,beq_false_of_ne ha,ix]
    ·congr 2
     funext a
     by_cases ha:a=l
     ·subst ha
      simp[h]
     ·have e:decide (a<l+1)=decide (a<l):=by rw[decide_eq_decide];omega
      rw[e]
 obtain⟨m,hm⟩:∃ m,∀ i,i<n->d i<m:=by
  have:∀ N,∃ m,∀ i,i<N->d i<m:=fun N=>by
   induction N with
   | zero=>exact⟨0,fun i h=>by omega⟩
   | succ N ih =>
    obtain⟨m,hm⟩:=ih;refine⟨m+d N+1,fun i h=>?_⟩;rcases gt i N with z | z
    ·have:=hm i z
     omega
    ·rw[show i=N by omega]
     omega
  exact this n
 rw[<- key m 0 (b6 _),<- Xq n];refine bR fun a k ha _=>?_
 unfold chS
 try dsimp only
 rw[if_pos (by simp[hm a ha])]
def itf (f:Nat->Nat):Nat->Nat->Nat
 | 0,i=>i
 | k+1,i=>f (itf f k i)
theorem Qb (hi:i<n)(hl:∀ k,k<=m->itf f (k+1) i<n)(hr:itf f (m+1) i=i)(hne:∀ k,0<k->k<=m->itf f k i≠i):det n (chM n f)=0:=by
 have key:∀ k,k<=m->det n (cF (chM n f) i fun l=>un i l-un (itf f (k+1) i) l)=det n (chM n f):=fun k=>by
  induction k with
  | zero =>
   intro _;refine jF _ fun l=>?_
   unfold chM
   have:=hl 0 (b6 _)
   rw[if_pos (show f i<n from this)];rfl
  | succ k ih =>
   intro hk;rw[<- ih (by omega)];have h1:=hl k (by omega);have h2:=hl (k+1) hk;have h3:=hne (k+1) (by omega) hk;rw[<- Nf (A:=cF (chM n f) i fun l=>un i l-un (itf f (k+1) i) l) (i:=i) (j:=itf f (k+1) i) (c:=1) hi h1 (fun z=>h3 z.symm)];refine bR fun a l _ _=>?_
   unfold cF
   try dsimp only
   by_cases ha:a=i
   ·subst ha
    rw[if_pos rfl,if_pos rfl,if_pos rfl,if_neg h3];unfold chM;rw[if_pos (show f (itf f (k+1) a)<n from h2)];show un a l-un (f (itf f (k+1) a)) l=_;omega
   ·rw[if_neg ha,if_neg ha,if_neg ha]
 rw[<- key m (af _),hr,show (fun l=>un i l-un i l)=fun _=>0 by funext l;omega];exact Bz hi
end
def kE (n i w:Nat):Nat->Int:=fun k=>un i k-if w<n then un w k else 0
def chA (n:Nat)(Ws:Nat->List Nat)(c:List Nat):Mx:=fun i k=>match c[i]? with
 | some w=>kE n i w k
 | none=>((Ws i).map fun w=>kE n i w k).sum
def Kg (Ws:Nat->List Nat):Nat->List (List Nat)
 | 0=>[[]]
 | m+1=>(Kg Ws m).flatMap fun c=>(Ws m).map fun w=>c++[w]
section
variable {n m i:Nat}{A:Mx}{Ws:Nat->List Nat}{c:List Nat}
theorem rW:∀ {m:Nat} {c:List Nat},c∈Kg Ws m->c.length=m
 | 0,c,h=>by rw[a7.mp h];rfl
 | m+1,c,h=>by
  obtain⟨c',h1,h2⟩:=jd.mp h;obtain⟨w,_,rfl⟩:=ao.mp h2;rw[ak,rW h1];rfl
theorem Bd {g:Nat->Nat->Int}(hi:i<n):∀ l:List Nat,det n (cF A i fun k=>(l.map fun w=>g w k).sum)=(l.map fun w=>det n (cF A i (g w))).sum
 | []=>Bz hi
 | w::l=>by
  have e:=zS (A:=A) (u:=g w) (v:=fun k=>(l.map fun w=>g w k).sum) hi;rw[ap,bz,<- Bd hi l,<- e];rfl
theorem Mb (hm:c.length=m)(h:m<n):det n (chA n Ws c)=((Ws m).map fun w=>det n (chA n Ws (c++[w]))).sum:=by
 have e1:det n (chA n Ws c)=det n (cF (chA n Ws c) m fun k=>((Ws m).map fun w=>kE n m w k).sum):=(jF _ fun k=>by
  show _=match c[m]? with
   | some w=>kE n m w k
   | none=>((Ws m).map fun w=>kE n m w k).sum
  rw[bn (by omega)]).symm
 rw[e1,Bd h]
 congr 1
 refine ay fun w _=>bR fun a k _ _=>?_
 unfold cF chA;by_cases ha:a=m
 ·subst ha
  rw[if_pos rfl,ia (by omega),hm,rj];rfl
 ·rw[if_neg ha]
  rcases gt a m with z | z
  ·rw[ig (by omega)]
  ·rw[bn (l:=c) (by omega),bn (by rw[ak,b7];omega)]
theorem Hv:∀ {m:Nat},m<=n->det n (chA n Ws [])=((Kg Ws m).map fun c=>det n (chA n Ws c)).sum
 | 0,_=>by
  show det n (chA n Ws [])=det n (chA n Ws [])+0;omega
 | m+1,h=>by
  rw[Hv (m:=m) (by omega)];have key:∀ l:List (List Nat),(∀ c∈l,c.length=m)->(l.map fun c=>det n (chA n Ws c)).sum=((l.flatMap fun c=>(Ws m).map fun w=>c++[w]).map fun c=>det n (chA n Ws c)).sum:=fun l=>by
   induction l with
   | nil=>intro _;rfl
   | cons c l ih =>
    intro hl;rw[ap,bz,cm,bc,List.sum_append,ih fun c hc=>hl c (aj _ hc),Mb (hl c (al ..)) (by omega),bj];rfl
  exact key _ fun c hc=>rW hc
def goF (n:Nat)(c:List Nat)(i:Nat):Nat:=if i<n then c.getD i n else i
def goN (n:Nat)(c:List Nat):Nat->Nat->Nat
 | 0,i=>i
 | k+1,i=>goF n c (goN n c k i)
def qK (n:Nat)(c:List Nat):Prop:=∀ i,i<n->¬ goN n c n i<n
theorem Px (hc:c.length=n):det n (chA n Ws c)=det n (chM n fun i=>c.getD i n):=bR fun a k ha _=>by
 unfold chA;rw[aa (show a<c.length by omega)];show kE n a c[a] k=kE n a (c.getD a n) k;rw[show c.getD a n=c[a] by rw[ai,aa (show a<c.length by omega)];rfl]
theorem Gx {k:Nat}(h:¬ i<n):goN n c k i=i:=by
 induction k with
 | zero=>rfl
 | succ k ih =>
  show goF n c (goN n c k i)=i;rw[ih];unfold goF;rw[if_neg h]
theorem lJ {k:Nat}:∀ l:Nat,goN n c (l+k) i=goN n c l (goN n c k i)
 | 0=>by rw[jl];rfl
 | l+1=>by
  rw[show l+1+k=(l+k)+1 by omega];show goF n c (goN n c (l+k) i)=goF n c (goN n c l (goN n c k i));rw[lJ l]
theorem Kk {k:Nat}:goN n c (k+1) i=goN n c k (goF n c i):=by
 rw[show k+1=k+1 from rfl,lJ k];rfl
theorem Jy (h:qK n c):det n (chM n fun i=>c.getD i n)=1:=by
 have ex:∀ i,∃ k,¬ goN n c k i<n:=fun i=>by
  by_cases hi:i<n
  ·exact⟨n,h i hi⟩
  ·exact⟨0,hi⟩
 have mB:∀ i,∃ k,¬ goN n c k i<n∧∀ j,j<k->goN n c j i<n:=fun i=>by
  obtain⟨k,hk⟩:=ex i
  induction k with
  | zero=>exact⟨0,hk,fun j hj=>by omega⟩
  | succ k ih =>
   by_cases h2:goN n c k i<n
   ·refine⟨k+1,hk,fun j hj=>?_⟩
    refine a5 fun z=>?_
    have:goN n c (k-j+j) i=goN n c j i:=by rw[lJ];exact Gx z
    rw[show k-j+j=k by omega] at this;rw[this] at h2;exact z h2
   ·exact ih h2
 refine Wv (d:=fun i=>j6 (mB i)) fun i hi hf=>?_
 obtain⟨a1,a2⟩:=pe (mB i);obtain⟨b1,b2⟩:=pe (mB (c.getD i n));have hg:goF n c i=c.getD i n:=by unfold goF;rw[if_pos hi]
 show j6 (mB (c.getD i n))<j6 (mB i);generalize j6 (mB i)=ka at a1 a2 ⊢;generalize j6 (mB (c.getD i n))=kb at b1 b2 ⊢;refine a5 fun z=>?_
 cases ka with
 | zero=>exact a1 hi
 | succ ka =>
  rw[Kk,hg] at a1;exact a1 (b2 ka (by omega))
theorem Lh (h:¬ qK n c):det n (chM n fun i=>c.getD i n)=0:=by
 obtain⟨i,hi,hn⟩:∃ i,i<n∧goN n c n i<n:=by
  refine a5 fun z=>h fun i hi hn=>z ⟨i,hi,hn⟩
 have lt:∀ k,k<=n->goN n c k i<n:=fun k hk=>by
  refine a5 fun z=>?_
  have:goN n c (n-k+k) i=goN n c k i:=by rw[lJ];exact Gx z
  rw[show n-k+k=n by omega] at this;rw[this] at hn;exact z hn
 obtain⟨a,b,hab,hb,heq⟩:∃ a b,a<b∧b<=n∧goN n c a i=goN n c b i:=by
  refine a5 fun z=>?_
  have nd:((cp (n+1)).map fun k=>goN n c k i).Nodup:=by
   refine de.mpr (fh (fun {x y} hx hy hxy he=>z ⟨x,y,hxy,?_,he⟩) k7)
   have:=cr.mp hy
   omega
  have:=Hg.kI (ms:=cp n) nd fun y hy=>by
   obtain⟨k,hk,rfl⟩:=ao.mp hy
   have:=cr.mp hk
   exact cr.mpr (lt k (by omega))
  rw[aR,dw,dw] at this;omega
 have hj:=lt a (by omega);have step:∀ k,k+a<=n->goN n c k (goN n c a i)<n:=fun k hk=>by
  rw[<- lJ];exact lt _ hk
 have hper:goN n c (b-a) (goN n c a i)=goN n c a i:=by
  rw[<- lJ,show b-a+a=b by omega,heq]
 generalize goN n c a i=j at hj step hper;obtain⟨p,hp0,hpb,hpp,hmin⟩:∃ p,0<p∧p<=b-a∧goN n c p j=j∧∀ q,0<q->q<p->goN n c q j≠j:=by
  have:∀ N p,p<=N->0<p->p<=b-a->goN n c p j=j->∃ p,0<p∧p<=b-a∧goN n c p j=j∧∀ q,0<q->q<p->goN n c q j≠j:=fun N=>by
   induction N with
   | zero=>intro p h1 h2;omega
   | succ N ih =>
    intro p h1 h2 h3 h4;by_cases hq:∃ q,0<q∧q<p∧goN n c q j=j
    ·obtain⟨q,q1,q2,q3⟩:=hq
     exact ih q (by omega) q1 (by omega) q3
    ·exact⟨p,h2,h3,h4,fun q q1 q2 q3=>hq ⟨q,q1,q2,q3⟩⟩
  exact this (b-a) (b-a) (af _) (by omega) (af _) hper
 have eq:∀ k,k<=p->itf (fun i=>c.getD i n) k j=goN n c k j:=fun k=>by
  induction k with
  | zero=>intro _;rfl
  | succ k ih =>
   intro hk;show c.getD (itf (fun i=>c.getD i n) k j) n=goF n c (goN n c k j);rw[ih (by omega)];unfold goF;rw[if_pos (step k (by omega))]
 refine Qb (i:=j) (m:=p-1) hj (fun k hk=>?_) ?_ fun k h1 h2=>?_
 ·rw[eq (k+1) (by omega)]
  exact step (k+1) (by omega)
 ·rw[show p-1+1=p by omega,eq p (af _),hpp]
 ·rw[eq k (by omega)]
  exact hmin k h1 (by omega)
theorem Ji [DecidablePred (qK n)]:det n (chA n Ws [])=(((Kg Ws n).filter fun c=>decide (qK n c)).length:Nat):=by
 rw[Hv (af n)];have key:∀ l:List (List Nat),(∀ c∈l,c.length=n)->(l.map fun c=>det n (chA n Ws c)).sum=((l.filter fun c=>decide (qK n c)).length:Nat):=fun l=>by
  induction l with
  | nil=>intro _;rfl
  | cons c l ih =>
   intro hl;rw[ap,bz,ih fun c hc=>hl c (aj _ hc),Px (hl c (al ..)),cz];by_cases hc:qK n c
   ·rw[Jy hc,if_pos (decide_eq_true hc),aq]
    omega
   ·rw[Lh hc,if_neg (by rw[decide_eq_false hc];exact am)]
    omega
 exact key _ fun c hc=>rW hc
end
def cE (words:List (List Nat))(o:List Nat):Int:=((words.countP fun w=>decide (w.drop 1=o):Nat):Int)
def rI (texts:List (List Nat))(t:List Nat)(words:List (List Nat)):List Int:=texts.map fun o=>if o=t then ((words.length:Nat):Int)-cE words t else-cE words o
def wS (ls:List (List Nat))(g:List Nat->List (List Nat))(i:Nat):List Nat:=(g (ls.getD i [])).map fun w=>ls.idxOf (w.drop 1)
theorem Ts {w:List Nat}{ws:List (List Nat)}{o:List Nat}:cE (w::ws) o=cE ws o+if w.drop 1=o then 1 else 0:=by
 unfold cE;rw[n8];by_cases h:w.drop 1=o
 ·rw[if_pos (decide_eq_true h),if_pos h];omega
 ·rw[if_neg (fun z=>h (of_decide_eq_true z)),if_neg h];omega
theorem Bm {ls:List (List Nat)}(hnd:ls.Nodup){i k:Nat}(hk:k<ls.length):∀ ws:List (List Nat),((ws.map fun w=>ls.idxOf (w.drop 1)).map fun w=>kE ls.length i w k).sum=(if i=k then ((ws.length:Nat):Int) else 0)-cE ws ls[k]
 | []=>by
  show (0:Int)=_-((0:Nat):Int);split <;> simp
 | w::ws=>by
  rw[ap,ap,bz,Bm hnd hk ws,Ts];have e:(if ls.idxOf (w.drop 1)<ls.length then un (ls.idxOf (w.drop 1)) k else 0)=if w.drop 1=ls[k] then (1:Int) else 0:=by
   by_cases h:w.drop 1=ls[k]
   ·rw[if_pos h,h,hnd.idxOf_getElem,if_pos hk]
    simp[un]
   ·rw[if_neg h]
    split
    ·rename_i hlt
     have hne:ls.idxOf (w.drop 1)≠k:=fun z=>h (by
      have:=qr hlt
      subst z;exact this.symm)
     unfold un;rw[if_neg (Ne.symm hne)]
    ·rfl
  show un i k-(if ls.idxOf (w.drop 1)<ls.length then un (ls.idxOf (w.drop 1)) k else 0)+_=_;rw[e,aq];by_cases hik:i=k
  ·rw[if_pos hik,if_pos hik,hik]
   simp[un];omega
  ·rw[if_neg hik,if_neg hik]
   simp[un,hik,Ne.symm hik];omega
theorem Oa {ls:List (List Nat)}(hnd:ls.Nodup)(g:List Nat->List (List Nat)):det ls.length (ent (ls.map fun t=>rI ls t (g t)))=det ls.length (chA ls.length (wS ls g) []):=bR fun i k hi hk=>by
 show ((ls.map fun t=>rI ls t (g t)).getD i []).getD k 0=((wS ls g i).map fun w=>kE ls.length i w k).sum;unfold wS;rw[Bm hnd hk,ai,ai,ah,aa hi];show ((rI ls ls[i] (g ls[i]))[k]?).getD 0=_;unfold rI;rw[ah,aa hk,ai,aa hi];show (if ls[k]=ls[i] then _ else _)=(if i=k then (((g ls[i]).length:Nat):Int) else 0)-cE (g ls[i]) ls[k];by_cases hik:i=k
 ·subst hik
  rw[if_pos rfl,if_pos rfl]
 ·rw[if_neg hik,if_neg (fun z=>hik (by have a:=hnd.idxOf_getElem i hi;have b:=hnd.idxOf_getElem k hk;rw[z,a] at b;exact b)),mi]
def sT (ls:List (List Nat))(cw:List Nat->List Nat)(t:List Nat):List Nat:=if t∈ls then (cw t).drop 1 else t
def iT (ls:List (List Nat))(cw:List Nat->List Nat):Nat->List Nat->List Nat
 | 0,t=>t
 | k+1,t=>sT ls cw (iT ls cw k t)
def plc (ls:List (List Nat))(cw:List Nat->List Nat):List Nat:=ls.map fun t=>ls.idxOf ((cw t).drop 1)
theorem Db {ls:List (List Nat)}(cw:List Nat->List Nat){t:List Nat}:∀ k:Nat,goN ls.length (plc ls cw) k (ls.idxOf t)=ls.idxOf (iT ls cw k t)
 | 0=>rfl
 | k+1=>by
  show goF ls.length (plc ls cw) (goN ls.length (plc ls cw) k (ls.idxOf t))=ls.idxOf (sT ls cw (iT ls cw k t));rw[Db cw k];unfold goF sT;by_cases h:iT ls cw k t∈ls
  ·have hl:ls.idxOf (iT ls cw k t)<ls.length:=jt h
   rw[if_pos hl,if_pos h];unfold plc;rw[ai,ah,aa hl,qr hl];rfl
  ·have hl:¬ ls.idxOf (iT ls cw k t)<ls.length:=fun z=>h (nj.mp z)
   rw[if_neg hl,if_neg h]
theorem Kb {ls:List (List Nat)}(hnd:ls.Nodup)(cw:List Nat->List Nat):qK ls.length (plc ls cw)↔(ls.all fun t=>decide (iT ls cw ls.length t∉ls))=true:=by
 rw[ft];constructor
 ·intro h t ht
  refine decide_eq_true fun z=>h (ls.idxOf t) (jt ht) ?_
  rw[Db];exact jt z
 ·intro h i hi z
  have e:=Db (ls:=ls) cw (t:=ls[i]) ls.length;rw[hnd.idxOf_getElem i hi] at e;rw[e] at z;exact of_decide_eq_true (h ls[i] (cy hi)) (nj.mp z)
inductive R2 {α β:Type}(R:α->β->Prop):List α->List β->Prop
 | nil:R2 R [] []
 | cons {a:α} {b:β} {as:List α} {bs:List β}:R a b->R2 R as bs->R2 R (a::as) (b::bs)
section
variable {α β:Type}{R R':α->β->Prop}{as:List α}{bs:List β}
theorem R2.len (h:R2 R as bs):as.length=bs.length:=by
 induction h with
 | nil=>rfl
 | cons _ _ ih=>rw[aq,aq,ih]
theorem R2.mono (h:R2 R as bs)(f:∀ a b,a∈as->R a b->R' a b):R2 R' as bs:=by
 induction h with
 | nil=>exact .nil
 | cons r _ ih=>exact .cons (f _ _ (al ..) r) (ih fun a b ha=>f a b (aj _ ha))
theorem R2.get (h:R2 R as bs):∀ {i:Nat} {b:β},bs[i]?=some b->∃ a,as[i]?=some a∧R a b:=by
 induction h with
 | nil=>intro i b e;simp at e
 | cons r _ ih =>
  intro i b e
  cases i with
  | zero=>rw[List.getElem?_cons_zero] at e;cases e;exact⟨_,rfl,r⟩
  | succ i=>rw[kl] at e;rw[kl];exact ih e
theorem R2.snoc {a:α}{b:β}(h:R2 R as bs)(r:R a b):R2 R (as++[a]) (bs++[b]):=by
 induction h with
 | nil=>exact .cons r .nil
 | cons r' _ ih=>exact .cons r' ih
end
abbrev W:=List Nat
def fK (f:W->W)(t w:W):W->W:=fun x=>if x=t then w else f x
theorem Kd {f:W->W}{a b x y:W}(h:a≠b):fK (fK f a x) b y=fK (fK f b y) a x:=by
 funext z
 unfold fK;by_cases h1:z=b
 ·rw[if_pos h1,if_neg (fun e=>h (e.symm.trans h1)),if_pos h1]
 ·rw[if_neg h1,if_neg h1]
theorem pT {f:W->W}{t w:W}:fK f t w t=w:=by unfold fK;rw[if_pos rfl]
theorem rD {f:W->W}{t w x:W}(h:x≠t):fK f t w x=f x:=by unfold fK;rw[if_neg h]
def chs (g:W->List W):List W->List (W->W)
 | []=>[fun _=>[]]
 | t::ls=>(chs g ls).flatMap fun f=>(g t).map fun w=>fK f t w
theorem yU {g:W->List W}:∀ {ls:List W} {f:W->W},f∈chs g ls->∀ t∈ls,f t∈g t
 | t::ls,f,h,x,hx=>by
  obtain⟨f',h1,h2⟩:=jd.mp h;obtain⟨w,hw,rfl⟩:=ao.mp h2;by_cases e:x=t
  ·subst e;rw[pT];exact hw
  ·rw[rD e];exact yU h1 x ((ar.mp hx).resolve_left e)
theorem yA {α β γ:Type}{F:α->β->γ}(as:List α)(bs:List β):(as.flatMap fun a=>bs.map fun b=>F a b).Perm (bs.flatMap fun b=>as.map fun a=>F a b):=by
 induction as with
 | nil=>simp
 | cons a as ih =>
  rw[cm];refine (jr _ ih).trans ?_;clear ih
  induction bs with
  | nil=>simp
  | cons b bs ih2 =>
   rw[cm,cm,ap,ap,fz,fz];refine List.Perm.cons _ ?_;refine pb ?_ (jr _ ih2);rw[<- c6,<- c6];exact List.Perm.append_right _ le
theorem hJ {α β:Type}{F G:α->List β}:∀ {l:List α},(∀ a∈l,(F a).Perm (G a))->(l.flatMap F).Perm (l.flatMap G)
 | [],_=>by simp
 | a::l,h=>by
  rw[cm,cm];exact (h a (al ..)).append (hJ fun b hb=>h b (aj _ hb))
theorem Nd {g:W->List W}{ls ms:List W}(h:ls.Perm ms):ls.Nodup->(chs g ls).Perm (chs g ms):=by
 induction h with
 | nil=>intro _;exact .refl _
 | cons t _ ih=>intro hn;exact (ih (bv.mp hn).2).flatMap_right _
 | swap a b l =>
  intro hn;have hab:b≠a:=fun e=>(bv.mp hn).1 (e▸al ..)
  show (((chs g l).flatMap fun f=>(g a).map fun w=>fK f a w).flatMap fun f=>(g b).map fun w=>fK f b w).Perm (((chs g l).flatMap fun f=>(g b).map fun w=>fK f b w).flatMap fun f=>(g a).map fun w=>fK f a w);rw[qt,qt];refine hJ fun f _=>?_
  rw[n9,n9];have e:(fun x=>(g a).map fun y=>fK (fK f b x) a y)=fun x=>(g a).map fun y=>fK (fK f a y) b x:=by
   funext x;congr 1;funext y;exact Kd hab
  have e2:=yA (F:=fun x y=>fK (fK f a x) b y) (g a) (g b);refine e2.trans ?_;rw[e]
 | trans h1 _ ih1 ih2=>intro hn;exact (ih1 hn).trans (ih2 (h1.nodup_iff.mp hn))
def cmT (ls:List W)(cw:W->W):Bool:=ls.all fun t=>decide (iT ls cw ls.length t∉ls)
theorem xP {ls ms:List W}(h:∀ t,t∈ls↔t∈ms){cw:W->W}{t:W}:∀ k,iT ls cw k t=iT ms cw k t
 | 0=>rfl
 | k+1=>by
  show sT ls cw (iT ls cw k t)=sT ms cw (iT ms cw k t);rw[xP h k];unfold sT;by_cases e:iT ms cw k t∈ms
  ·rw[if_pos e,if_pos ((h _).mpr e)]
  ·rw[if_neg e,if_neg (fun z=>e ((h _).mp z))]
theorem Cn {ls ms:List W}(h:ls.Perm ms)(cw:W->W):cmT ls cw=cmT ms cw:=by
 unfold cmT;rw[c9,ft,ft];have hm:∀ t,t∈ls↔t∈ms:=fun t=>h.mem_iff
 constructor
 ·intro q t ht
  have:=of_decide_eq_true (q t ((hm t).mpr ht))
  rw[xP hm,h.length_eq] at this;exact decide_eq_true fun z=>this ((hm _).mpr z)
 ·intro q t ht
  have:=of_decide_eq_true (q t ((hm t).mp ht))
  rw[<- xP hm,<- h.length_eq] at this;exact decide_eq_true fun z=>this ((hm _).mp z)
def nC (ls:List W)(g:W->List W):Nat:=((chs g ls).filter (cmT ls)).length
theorem Ge {ls ms:List W}(h:ls.Perm ms)(hn:ls.Nodup)(g:W->List W):nC ls g=nC ms g:=by
 unfold nC;rw[((Nd (g:=g) h hn).filter (cmT ls)).length_eq]
 congr 2
 funext f
 exact Cn h f
theorem oT {g g':W->List W}:∀ {ls:List W},(∀ t∈ls,g t=g' t)->chs g ls=chs g' ls
 | [],_=>rfl
 | t::ls,h=>by
  show (chs g ls).flatMap _=(chs g' ls).flatMap _;rw[oT fun x hx=>h x (aj _ hx),h t (al ..)]
theorem Bi {ls:List W}{g g':W->List W}(h:∀ t∈ls,g t=g' t):nC ls g=nC ls g':=by unfold nC;rw[oT h]
theorem Bn {ls:List W}(hn:ls.Nodup){g:W->List W}:∀ m,m<=ls.length->Kg (wS ls g) m=(chs g (ls.take m).reverse).map fun f=>(ls.take m).map fun t=>ls.idxOf ((f t).drop 1)
 | 0,_=>by rw[jc];rfl
 | m+1,h=>by
  have hm:m<ls.length:=h;have ht:ls.take (m+1)=ls.take m++[ls[m]]:=by rw[ca,aa hm];rfl
  rw[ht,List.reverse_append];show (Kg (wS ls g) m).flatMap _=((chs g (ls.take m).reverse).flatMap fun f=>(g ls[m]).map fun w=>fK f ls[m] w).map _;rw[Bn hn m (by omega),n9,oa];have hnot:ls[m]∉ls.take m:=fun z=>by
   have nd:(ls.take m++[ls[m]]).Nodup:=ht▸hn.sublist (gc (m+1) ls);exact (d9.mp nd).2.2 _ z _ (a7.mpr rfl) rfl
  congr 1
  funext f
  unfold wS;rw[ai,aa hm,bj,bj];refine ay fun w _=>?_
  show (ls.take m).map _++[_]=(ls.take m++[ls[m]]).map _;rw[bc,List.map_singleton]
  congr 1
  ·refine ay fun t ht=>?_
   show _=ls.idxOf ((fK f ls[m] w t).drop 1);rw[rD (fun e=>hnot (by rw[<- e];exact ht))]
  ·show _=[ls.idxOf ((fK f ls[m] w ls[m]).drop 1)]
   rw[pT]
theorem Wt {ls:List W}(hn:ls.Nodup)(g:W->List W):det ls.length (ent (ls.map fun t=>rI ls t (g t)))=((nC ls g:Nat):Int):=by
 classical
 rw[Oa hn,Ji,Bn hn ls.length (af _),cf];rw[Ge (rl ls).symm hn g];unfold nC;rw[List.filter_map,aR]
 congr 3
 funext f
 rw[Cn (rl ls)];show decide (qK ls.length (plc ls f))=cmT ls f;rw[c9,decide_eq_true_iff];exact Kb hn f
theorem sQ {g:W->List W}:∀ ls:List W,(chs g ls).length<=2 ^ (ls.map fun t=>(g t).length).sum
 | []=>af 1
 | t::ls=>by
  have ih:=sQ (g:=g) ls;have e:(chs g (t::ls)).length=(chs g ls).length*(g t).length:=by
   show ((chs g ls).flatMap fun f=>(g t).map fun w=>fK f t w).length=_;generalize chs g ls=l
   induction l with
   | nil=>simp
   | cons f l ihl=>rw[cm,ak,aR,ihl,aq,g8,fo,iq]
  rw[e,ap,bz,jh,dh];exact fg (j4 Nat.lt_two_pow_self) ih
end Dt
namespace Hg
variable {bg en:List Nat->List Nat}
def Tr (bg en:List Nat->List Nat):List Nat->List (List Nat)->List Nat->Prop
 | p,[],q=>p=q
 | p,w::ws,q=>bg w=p∧Tr bg en (en w) ws q
theorem Tr.mem:∀ {ws:List (List Nat)} {p q:List Nat},Tr bg en p ws q->∀ w∈ws,bg w∈p::ws.map en
 | v::ws,p,q,h,w,hw=>by
  rcases ar.mp hw with rfl | hw
  ·rw[h.1]
   exact al ..
  ·exact aj _ (Tr.mem h.2 w hw)
theorem Tr.exc (χ:List Nat->Bool):∀ {ws:List (List Nat)} {p q:List Nat},Tr bg en p ws q->((ws.filter fun l=>χ (bg l)).length:Int)-((ws.filter fun l=>χ (en l)).length:Int)=(if χ p then 1 else 0)-(if χ q then 1 else 0)
 | [],p,q,h=>by
  cases h;simp
 | w::ws,p,q,h=>by
  have ih:=Tr.exc χ h.2;rw[cz,cz,h.1];by_cases h1:χ p <;> by_cases h2:χ (en w) <;> simp[h1,h2] at ih ⊢ <;> omega
theorem Tr.rch {ms:List (List Nat)}{p:List Nat}:∀ {ws:List (List Nat)} {r q:List Nat},Tr bg en r ws q->(∀ w∈ws,w∈ms)->Rch bg en ms p r->∀ w∈ws,Rch bg en ms p (bg w)∧Rch bg en ms p (en w)
 | v::ws,r,q,h,hs,hr,w,hw=>by
  have h1:Rch bg en ms p (bg v):=by rw[h.1];exact hr
  have h2:Rch bg en ms p (en v):=.fw (hs v (al ..)) h1;rcases ar.mp hw with rfl | hw
  ·exact⟨h1,h2⟩
  ·exact Tr.rch h.2 (fun w hw=>hs w (aj _ hw)) h2 w hw
theorem Rch.trans {ms:List (List Nat)}{p z y:List Nat}(h1:Rch bg en ms p z)(h2:Rch bg en ms z y):Rch bg en ms p y:=by
 induction h2 with
 | self=>exact h1
 | fw hw _ ih=>exact .fw hw ih
 | bw hw _ ih=>exact .bw hw ih
theorem Rch.symm {ms:List (List Nat)}{p z:List Nat}(h:Rch bg en ms p z):Rch bg en ms z p:=by
 induction h with
 | self=>exact .self
 | fw hw _ ih=>exact (Rch.bw hw .self).trans ih
 | bw hw _ ih=>exact (Rch.fw hw .self).trans ih
end Hg
namespace Wd
open Hg
def beg (l:W):W:=l.take (l.length-1)
def fin (l:W):W:=l.drop 1
theorem Mg {t:W}{n i:Nat}:fin (bX t n i)=beg (bX t n (i+1)):=by
 unfold fin beg;rw[hV];apply fe;intro k;rw[gk];by_cases hk:k<n-1
 ·rw[d7 hk]
  unfold bX;rw[ah,ah,gf (by omega),gf (by omega)];show some (t.getD ((i+(1+k)) % t.length) 0)=some (t.getD ((i+1+k) % t.length) 0);rw[ux]
 ·rw[bn (by rw[hV];omega),bn (by rw[a6,hV];omega)]
theorem Tr.app {p r q:W}:∀ {xs ys:List W} {p:W},Tr beg fin p xs r->Tr beg fin r ys q->Tr beg fin p (xs++ys) q
 | [],_,_,h,g=>by cases h;exact g
 | x::xs,_,_,h,g=>⟨h.1,Tr.app (p:=p) h.2 g⟩
def seg (t:W)(n i j:Nat):List W:=(tf i (j-i)).map (bX t n)
theorem Qj {t:W}{n:Nat}:∀ {k i:Nat},Tr beg fin (beg (bX t n i)) ((tf i k).map (bX t n)) (beg (bX t n (i+k)))
 | 0,i=>rfl
 | k+1,i=>by
  rw[List.range'_succ,ap];refine⟨rfl,?_⟩;rw[Mg,show i+(k+1)=i+1+k by omega];exact Qj
theorem Sz {t:W}{n i j:Nat}(h:i<=j):Tr beg fin (beg (bX t n i)) (seg t n i j) (beg (bX t n j)):=by
 have:=Qj (t:=t) (n:=n) (k:=j-i) (i:=i)
 rw[qi h] at this;exact this
theorem Hc (t:W)(n:Nat):seg t n 0 t.length=dG t n:=by
 unfold seg dG;rw[iu,List.range_eq_range']
def sl (t:W)(i j:Nat):W:=(t.drop i).take (j-i)
def hd (w:W):Nat:=w.getD 0 0
theorem Wf {t:W}{n i j:Nat}(hn:1<=n)(hj:j<=t.length):(seg t n i j).map hd=sl t i j:=by
 unfold seg sl;rw[bj];apply fe;intro k;rw[ah];by_cases hk:k<j-i
 ·rw[List.getElem?_range' hk,d7 hk,gk]
  show some (hd (bX t n (i+1*k)))=_;unfold hd bX;obtain⟨m,rfl⟩:∃ m,n=m+1:=⟨n-1,by omega⟩;rw[ai,ah,gf (by omega)];show some (t.getD ((i+1*k+0) % t.length) 0)=_;rw[fo,k8,et (by omega),ai,aa (by omega)];rfl
 ·rw[bn (by rw[qq];omega),bn (by rw[a6];omega)]
  rfl
theorem Vz {p q:W}:∀ {us:List W} {p:W} {i:Nat},Tr beg fin p us q->i<us.length->(∃ w,us[i]?=some w∧fin w=if h:i+1<us.length then beg us[i+1] else q):=by
 intro us
 induction us with
 | nil=>intro p i _ h;exact absurd h (l8 _)
 | cons u r ih =>
  intro p' i h hi
  cases i with
  | zero =>
   refine⟨u,rfl,?_⟩
   cases r with
   | nil =>
    rw[dif_neg (by simp)];exact h.2
   | cons v r' =>
    rw[dif_pos (by simp)];exact h.2.1.symm
  | succ i =>
   obtain⟨w,e1,e2⟩:=ih (i:=i) h.2 (by simpa using hi);refine⟨w,by rw[kl];exact e1,?_⟩;rw[e2];by_cases hh:i+1<r.length
   ·rw[dif_pos hh,dif_pos (by simpa using hh)]
    rfl
   ·rw[dif_neg hh,dif_neg (by simpa using hh)]
theorem Tg {us:List W}{p:W}{n:Nat}(hn:1<=n)(hl:∀ w∈us,w.length=n)(h:Tr beg fin p us p):dG (us.map hd) n=us:=by
 rcases my us.length with h0 | h0
 ·rw[bh.mp h0];rfl
 have nx:∀ i,i<us.length->∃ w v,us[i]?=some w∧us[(i+1) % us.length]?=some v∧fin w=beg v:=fun i hi=>by
  obtain⟨w,e1,e2⟩:=Vz (p:=p) h hi;by_cases hh:i+1<us.length
  ·rw[dif_pos hh] at e2
   exact⟨w,_,e1,by rw[et hh];exact aa hh,e2⟩
  ·rw[dif_neg hh] at e2
   refine⟨w,us[0],e1,by rw[show i+1=us.length by omega,Nat.mod_self];exact aa h0,?_⟩;rw[e2]
   cases us with
   | nil=>exact absurd h0 (l8 _)
   | cons u r=>exact h.1.symm
 have key:∀ k i w,k<n->i<us.length->us[i]?=some w->∃ v,us[(i+k) % us.length]?=some v∧w[k]?=some (hd v):=by
  intro k
  induction k with
  | zero =>
   intro i w _ hi e;refine⟨w,by rw[k8,et hi];exact e,?_⟩;have hw:=hl w (au e);unfold hd;rw[ai,aa (by omega)];rfl
  | succ k ih =>
   intro i w hk hi e;obtain⟨w',v,e1,e2,e3⟩:=nx i hi;rw[e] at e1;cases e1;have hv:=hl v (au e2);obtain⟨x,g1,g2⟩:=ih ((i+1) % us.length) v (by omega) (jx _ h0) e2;refine⟨x,?_,?_⟩
   ·rw[<- g1,tq,show i+1+k=i+(k+1) by omega]
   ·have:(fin w)[k]?=(beg v)[k]?:=by rw[e3]
    unfold fin beg at this;rw[gk,d7 (by omega),g2,show 1+k=k+1 by omega] at this;exact this
 apply fe;intro i;by_cases hi:i<us.length
 ·rw[wB (by rw[aR];exact hi),aa hi]
  congr 1
  have hw:=hl us[i] (cy hi);apply fe;intro k;by_cases hk:k<n
  ·obtain⟨v,g1,g2⟩:=key k i us[i] hk hi (aa hi)
   rw[tX hk (by rw[aR];exact h0),aR,ah,g1,g2];rfl
  ·rw[bn (by rw[hV];omega),bn (by omega)]
 ·rw[bn (by rw[gO,aR];omega),bn (by omega)]
section
variable {t:W}{n a b c d:Nat}
theorem Ec:beg (bX t n t.length)=beg (bX t n 0):=by rw[<- Fj (i:=t.length),Nat.mod_self]
theorem Vp:sl t 0 t.length=t:=by unfold sl;rw[gd,iu,cf]
end
end Wd
namespace Wd
section
variable {r g:W}{n:Nat}
end
def num (k:Nat)(w:W):Nat:=w.foldl (fun a c=>a*k+(c-97)) 0
def Okk (k:Nat)(w:W):Prop:=∀ c∈w,97<=c∧c<97+k
def Lst (w:W):Prop:=w=mB w
def fill (k n:Nat)(p:W):W:=p++mq (n-p.length) (96+k)
instance (w:W):Decidable (Lst w):=inferInstanceAs (Decidable (w=mB w))
structure LW (k n:Nat)(w:W):Prop where
 len:w.length=n
 ok:Okk k w
 lst:Lst w
def Nn (k:Nat)(w:W)(m:Nat):Prop:=∀ v,LW k w.length v->∀ p,m<=p->p<w.length->v.take p=w.take p->¬ w.getD p 0<v.getD p 0
theorem Iy {t:W}{n c:Nat}(hn:1<=n)(h:n<=t.length+1):kE (t++[c]) n=kE t n++[t.drop (t.length+1-n)++[c]]:=by
 unfold kE;rw[ak,b7,show t.length+1+1-n=t.length+1-n+1 by omega,tz,bc];refine congr (congrArg _ (ay fun i hi=>?_)) ?_
 ·rw[cr] at hi
  rw[<- Dd (t:=t++[c]) (by rw[ak,b7];omega),<- Dd (t:=t) (by omega),ji (by omega),l0 (by rw[a9];omega)]
 ·show [bX (t++[c]) n (t.length+1-n)]=_
  rw[<- Dd (t:=t++[c]) (by rw[ak,b7];omega),ji (by omega),cj (by rw[ak,a9,b7];omega)]
theorem Ca:∀ (a b:List W),a.Nodup->(∀ x∈a,x∈b)->a.length<=b.length
 | [],b,_,_=>b6 _
 | x::a,b,hn,hs=>by
  obtain⟨h1,h2⟩:=bv.mp hn;have hx:x∈b:=hs x al
  have:=Ca a (b.erase x) h2 fun y hy=>(qa (fun e=>h1 (by rw[<- e];exact hy))).mpr (hs y (aj _ hy))
  rw[kc hx] at this;have hp:0<b.length:=dl hx;rw[aq];omega
def per (u:W)(m:Nat):W:=(cp m).map fun j=>u.getD (j % u.length) 0
theorem zE (u:W)(m:Nat):(per u m).length=m:=by rw[per,aR,dw]
theorem Hm {u:W}{m j:Nat}(h:j<m):(per u m)[j]?=some (u.getD (j % u.length) 0):=by rw[per,ah,gf h];rfl
theorem Ib {t:W}{i c:Nat}(h:t[i]?=some c):t.getD i 0=c:=by rw[ai,h];rfl
theorem Pq {u:W}{n:Nat}(h:0<u.length)(hn:1<=n):kE (per u (u.length+n-1)) n=dG u n:=by
 unfold kE dG;rw[zE,show u.length+n-1+1-n=u.length by omega];refine ay fun i hi=>?_
 have hi:=cr.mp hi;unfold bX;refine ay fun k hk=>?_
 have hk:=cr.mp hk;rw[zE,et (by omega),Ib (Hm (by omega))]
theorem Xp {t:W}{s n:Nat}(hs:0<s)(hn:1<=n)(hl:t.length=s+n-1)(h:t.drop s=t.take (n-1)):t=per (t.take s) (s+n-1):=by
 have hrl:(t.take s).length=s:=by rw[a6];omega
 have key:∀ j,j<t.length->t[j]?=some ((t.take s).getD (j % s) 0):=by
  intro j
  induction j using Nat.strongRecOn with
  | _ j ih =>
   intro hj;by_cases hjs:j<s
   ·rw[et hjs,aa hj,Ib (c:=t[j]) (by rw[d7 hjs,aa hj])]
   ·have e1:t[j]?=(t.drop s)[j-s]?:=by rw[gk];congr 1;omega
    rw[e1,h,d7 (by omega),ih (j-s) (by omega) (by omega),Nat.mod_eq_sub_mod (show s<=j by omega)]
 apply fe;intro i;by_cases hi:i<t.length
 ·rw[key i hi,Hm (by omega),hrl]
 ·rw[bn (by omega),bn (by rw[zE];omega)]
theorem Br {t:W}{s n:Nat}(hs:0<s)(hn:1<=n)(hl:t.length=s+n-1)(h:t.drop s=t.take (n-1)):dG (t.take s) n=kE t n:=by
 have hrl:(t.take s).length=s:=by rw[a6];omega
 have e:=Pq (u:=t.take s) (n:=n) (by omega) hn;rw[hrl,<- Xp hs hn hl h] at e;exact e.symm
section
variable {k n:Nat}{t:W}
theorem full {a b:List W}(hn:a.Nodup)(hs:∀ x∈a,x∈b)(hl:b.length<=a.length){x:W}(hx:x∈b):x∈a:=by
 refine a5 fun hno=>?_
 have:=Ca (x::a) b (bv.mpr ⟨hno,hn⟩) fun y hy=>by
  rcases ar.mp hy with rfl | hy
  ·exact hx
  ·exact hs y hy
 rw[aq] at this;omega
end
open Hg
def lst (us:List W):W:=us.getD (us.length-1) []
theorem No (us:List W)(w:W):lst (us++[w])=w:=by unfold lst;simp
def ext (ws us:List W):List (List W):=(ws.filter fun w=>decide (beg w=fin (lst us)) && !decide (w∈us)).map fun w=>us++[w]
section
variable {ws us:List W}{w0 w:W}{n k:Nat}
theorem Tr.cut {p q:W}:∀ {xs:List W} {p:W},Tr beg fin p (xs++[w]) q->Tr beg fin p xs (beg w)∧q=fin w
 | [],_,h=>⟨h.1.symm,h.2.symm⟩
 | x::xs,_,h=>by
  obtain⟨h1,h2⟩:=Tr.cut (p:=p) (xs:=xs) h.2;exact⟨⟨h.1,h1⟩,h2⟩
theorem Tr.lst {p q:W}(h:Tr beg fin p us q)(hne:us≠[]):q=fin (lst us):=by
 obtain⟨xs,w,rfl⟩:∃ xs w,us=xs++[w]:=⟨us.dropLast,us.getLast hne,(l9 hne).symm⟩;rw[No];exact (Tr.cut (p:=p) h).2
end
def cnt (f:W->W)(E:List W)(v:W):Nat:=(E.filter fun w=>decide (f w=v)).length
def Bal (E:List W)(s t:W):Prop:=∀ v,cnt beg E v+(if v=t then 1 else 0)=cnt fin E v+(if v=s then 1 else 0)
def zP (E:List W)(s:W):Prop:=∀ χ:W->Prop,χ s->(∀ e∈E,χ (beg e)↔χ (fin e))->∀ e∈E,χ (beg e)
section
variable {E L us:List W}{s t v p q w:W}
theorem nY (f:W->W)(e:W)(E:List W)(v:W):cnt f (e::E) v=(if f e=v then 1 else 0)+cnt f E v:=by
 unfold cnt;rw[cz];by_cases h:f e=v
 ·rw[if_pos (decide_eq_true h),if_pos h,aq,iq]
 ·rw[if_neg (by rw[decide_eq_false h];exact am),if_neg h,jl]
theorem Hi (f:W->W)(A B:List W)(v:W):cnt f (A++B) v=cnt f A v+cnt f B v:=by
 unfold cnt;rw[gl,ak]
theorem uK {A B:List W}(f:W->W)(h:A.Perm B)(v:W):cnt f A v=cnt f B v:=(h.filter _).length_eq
theorem Bal.perm {A B:List W}(h:Bal A s t)(hp:A.Perm B):Bal B s t:=fun v=>by rw[<- uK beg hp,<- uK fin hp];exact h v
theorem zP.perm {A B:List W}(h:zP A s)(hp:A.Perm B):zP B s:=fun χ hs hc e he=>h χ hs (fun e he=>hc e (hp.mem_iff.mp he)) e (hp.mem_iff.mpr he)
theorem uV:∀ {us:List W} {p:W},Tr beg fin p us q->Bal us p q
 | [],p,h=>fun v=>by
  have h:p=q:=h;subst h;rfl
 | w::us,p,h=>fun v=>by
  have ih:=uV h.2 v;have e:beg w=p:=h.1;rw[nY,nY];have e1:(if v=p then 1 else 0)=(if beg w=v then 1 else 0):=by
   by_cases c:v=p
   ·rw[if_pos c,if_pos (by rw[e,c])]
   ·rw[if_neg c,if_neg (fun z=>c (by rw[<- z,e]))]
  have e2:(if v=fin w then 1 else 0)=(if fin w=v then 1 else 0):=by
   by_cases c:v=fin w
   ·rw[if_pos c,if_pos c.symm]
   ·rw[if_neg c,if_neg (fun z=>c z.symm)]
  omega
theorem Bal.rest (h:Bal E s t)(hp:E.Perm (us++L))(ht:Tr beg fin s us q):Bal L q t:=fun v=>by
 have h1:=(h.perm hp) v;have h2:=uV ht v;rw[Hi,Hi] at h1;omega
theorem Bal.out (h:Bal L v t)(hne:v≠t):∃ e∈L,beg e=v:=by
 have h1:=h v;rw[if_neg hne,if_pos rfl] at h1;have h2:0<cnt beg L v:=by omega
 obtain⟨e,he⟩:=d0 h2;obtain⟨g1,g2⟩:=cc.mp he;exact⟨e,g1,of_decide_eq_true g2⟩
theorem Bal.go:∀ (k:Nat) {L:List W} {v:W},L.length=k->Bal L v t->∃ cs R,L.Perm (cs++R)∧Tr beg fin v cs t
 | 0,L,v,hl,h=>by
  by_cases c:v=t
  ·exact⟨[],L,ic _,c⟩
  ·obtain⟨e,he,_⟩:=h.out c
   rw[bh.mp hl] at he;cases he
 | k+1,L,v,hl,h=>by
  by_cases c:v=t
  ·exact⟨[],L,ic _,c⟩
  ·obtain⟨e,he,hb⟩:=h.out c
   have hp:=l5 he;have h2:Bal (L.erase e) (fin e) t:=h.rest (us:=[e]) hp ⟨hb,rfl⟩;have hle:(L.erase e).length=k:=by rw[kc he,hl];rfl
   obtain⟨cs,R,h3,h4⟩:=Bal.go k hle h2;exact⟨e::cs,R,hp.trans (h3.cons e),⟨hb,h4⟩⟩
theorem Bb:∀ {us:List W} {p:W},Tr beg fin p us q->v∈p::us.map fin->∃ xs ys,us=xs++ys∧Tr beg fin p xs v∧Tr beg fin v ys q
 | [],p,h,hv=>by
  have e:v=p:=by simpa using hv
  exact⟨[],[],rfl,e.symm,e▸h⟩
 | w::us,p,h,hv=>by
  by_cases c:v=p
  ·exact⟨[],w::us,rfl,c.symm,by rw[c];exact h⟩
  ·have hv2:v∈fin w::us.map fin:=(ar.mp hv).resolve_left c
   obtain⟨xs,ys,e,h1,h2⟩:=Bb h.2 hv2;exact⟨w::xs,ys,by rw[e];rfl,⟨h.1,h1⟩,h2⟩
theorem Pl:∀ (k:Nat) {us R:List W},R.length<=k->Tr beg fin s us t->Bal R t t->zP (us++R) s->∃ full,full.Perm (us++R)∧Tr beg fin s full t
 | k,us,[],_,h,_,_=>⟨us,by rw[df],h⟩
 | 0,us,r::R,hl,_,_,_=>absurd hl (by simp)
 | k+1,us,r::R,hl,h,hb,hc=>by
  have hbv:∀ v,cnt beg (r::R) v=cnt fin (r::R) v:=fun v=>by have:=hb v;omega
  have hex:∃ e∈r::R,beg e∈s::us.map fin:=by
   refine a5 fun z=>?_
   have hno:∀ e∈r::R,¬ beg e∈s::us.map fin:=fun e he c=>z ⟨e,he,c⟩
   have hnof:∀ e∈r::R,¬ fin e∈s::us.map fin:=fun e he c=>by
    have h1:0<cnt fin (r::R) (fin e):=dl (cc.mpr ⟨he,decide_eq_true rfl⟩);rw[<- hbv] at h1;obtain⟨e',he'⟩:=d0 h1;obtain⟨g1,g2⟩:=cc.mp he';exact hno e' g1 (by rw[of_decide_eq_true g2];exact c)
   have:=hc (fun v=>v∈s::us.map fin) (al ..) (fun e he=>?_) r (br _ (al ..))
   ·exact hno r (al ..) this
   ·rcases bu.mp he with he | he
    ·exact⟨fun _=>aj _ (gg he),fun _=>h.mem e he⟩
    ·exact⟨fun z=>absurd z (hno e he),fun z=>absurd z (hnof e he)⟩
  obtain⟨e,he,hev⟩:=hex;obtain⟨xs,ys,rfl,t1,t2⟩:=Bb h hev;have hp:=l5 he;have hb1:Bal (r::R) (beg e) (beg e):=fun v=>by have:=hbv v;omega
  have hb2:Bal ((r::R).erase e) (fin e) (beg e):=hb1.rest (us:=[e]) hp ⟨rfl,rfl⟩;obtain⟨cs,R',h3,h4⟩:=Bal.go _ rfl hb2;have hpR:(r::R).Perm ((e::cs)++R'):=hp.trans (h3.cons e);have t3:Tr beg fin (beg e) (e::cs) (beg e):=⟨rfl,h4⟩;have hb3:Bal R' (beg e) (beg e):=hb1.rest hpR t3;have hb4:Bal R' t t:=fun v=>by have:=hb3 v;omega
  have hl2:R'.length<=k:=by
   have:=hpR.length_eq
   rw[ak,aq,aq] at this;rw[aq] at hl;omega
  have hpall:((xs++ys)++(r::R)).Perm ((xs++((e::cs)++ys))++R'):=by
   refine (hpR.append_left (xs++ys)).trans ?_;rw[c6,c6,c6];refine jr xs ?_;rw[<- c6,<- c6];exact le.append_right R'
  obtain⟨full,f1,f2⟩:=Pl k hl2 (Tr.app (p:=s) t1 (Tr.app (p:=s) t3 t2)) hb4 (hc.perm hpall);exact⟨full,f1.trans hpall.symm,f2⟩
theorem Zc (hb:Bal E s t)(hc:zP E s):∃ us,us.Perm E∧Tr beg fin s us t:=by
 obtain⟨cs,R,h1,h2⟩:=Bal.go _ rfl hb;have hr:=hb.rest h1 h2;obtain⟨full,f1,f2⟩:=Pl _ (af _) h2 hr (hc.perm h1);exact⟨full,f1.trans h1.symm,f2⟩
end
end Wd
namespace Dt
open Wd Hg
section
variable {ts:List W}{f:W->W}
theorem Nz {t:W}(h:t∉ts):∀ k,iT ts f k t=t
 | 0=>rfl
 | k+1=>by
  show sT ts f (iT ts f k t)=t;rw[Nz h k];unfold sT;rw[if_neg h]
theorem Qp {t:W}:∀ l k,iT ts f (l+k) t=iT ts f l (iT ts f k t)
 | 0,k=>by rw[jl];rfl
 | l+1,k=>by
  rw[show l+1+k=(l+k)+1 by omega];show sT ts f (iT ts f (l+k) t)=sT ts f (iT ts f l (iT ts f k t));rw[Qp l k]
theorem zO:cmT ts f=true↔∀ χ:W->Prop,(∀ t,χ t->t∈ts∧χ ((f t).drop 1))->∀ t,¬ χ t:=by
 constructor
 ·intro h χ hc t ht
  have key:∀ k,χ (iT ts f k t):=fun k=>by
   induction k with
   | zero=>exact ht
   | succ k ih =>
    show χ (sT ts f (iT ts f k t));unfold sT;rw[if_pos (hc _ ih).1];exact (hc _ ih).2
  exact of_decide_eq_true (ft.mp h t (hc t ht).1) (hc _ (key ts.length)).1
 ·intro h
  refine ft.mpr fun t ht=>decide_eq_true fun hn=>?_
  have lt:∀ k,k<=ts.length->iT ts f k t∈ts:=fun k hk=>by
   refine a5 fun z=>?_
   have e:iT ts f (ts.length-k+k) t=iT ts f k t:=by rw[Qp];exact Nz z _
   rw[show ts.length-k+k=ts.length by omega] at e;rw[e] at hn;exact z hn
  obtain⟨a,b,hab,hb,heq⟩:∃ a b,a<b∧b<=ts.length∧iT ts f a t=iT ts f b t:=by
   refine a5 fun z=>?_
   have nd:((cp (ts.length+1)).map fun k=>iT ts f k t).Nodup:=by
    refine de.mpr (fh (fun {x y} hx hy hxy he=>z ⟨x,y,hxy,?_,he⟩) k7)
    have:=cr.mp hy
    omega
   have:=Hg.kI (ms:=ts) nd fun y hy=>by
    obtain⟨k,hk,rfl⟩:=ao.mp hy
    have:=cr.mp hk
    exact lt k (by omega)
   rw[aR,dw] at this;omega
  refine h (fun u=>∃ k,a<=k∧k<b∧u=iT ts f k t) (fun u ⟨k,h1,h2,h3⟩=>?_) (iT ts f a t) ⟨a,af _,hab,rfl⟩;subst h3;refine⟨lt k (by omega),?_⟩;have e:(f (iT ts f k t)).drop 1=iT ts f (k+1) t:=by
   show _=sT ts f (iT ts f k t);unfold sT;rw[if_pos (lt k (by omega))]
  rw[e];by_cases hk:k+1<b
  ·exact⟨k+1,by omega,hk,rfl⟩
  ·exact⟨a,af _,hab,by rw[heq,show b=k+1 by omega]⟩
end
def fct:Nat->Nat
 | 0=>1
 | n+1=>(n+1)*fct n
def pF (c:W->Nat):List W->Nat
 | []=>1
 | t::ts=>fct (c t-1)*pF c ts
theorem tN {c c':W->Nat}:∀ {ts:List W},(∀ t∈ts,c t=c' t)->pF c ts=pF c' ts
 | [],_=>rfl
 | t::ts,h=>by
  show fct (c t-1)*pF c ts=fct (c' t-1)*pF c' ts;rw[h t (al ..),tN fun u hu=>h u (aj _ hu)]
theorem Tp {c:W->Nat}{ts us:List W}(h:ts.Perm us):pF c ts=pF c us:=by
 induction h with
 | nil=>rfl
 | cons t _ ih=>show fct (c t-1)*_=fct (c t-1)*_;rw[ih]
 | swap a b l=>show fct (c b-1)*(fct (c a-1)*pF c l)=fct (c a-1)*(fct (c b-1)*pF c l);rw[rn]
 | trans _ _ h1 h2=>exact h1.trans h2
def og (E:List W)(t:W):List W:=E.filter fun w=>decide (beg w=t)
def rm (E:List W)(w:W):List W:=E.filter fun x=>!decide (x=w)
section
variable {E:List W}{a b t w:W}
theorem sK:(og E t).length=cnt beg E t:=rfl
theorem cD:w∈og E t↔w∈E∧beg w=t:=by unfold og;rw[cc,decide_eq_true_iff]
theorem dY {x:W}:x∈rm E w↔x∈E∧x≠w:=by
 unfold rm;rw[cc,ju,decide_eq_false_iff_not]
theorem dH (h:E.Nodup):(rm E w).Nodup:=h.sublist j9
theorem iG (h:E.Nodup)(hw:w∈E):E.Perm (w::rm E w):=by
 refine (dq h (bv.mpr ⟨fun z=>(dY.mp z).2 rfl,dH h⟩)).mpr fun x=>?_
 rw[ar,dY];constructor
 ·intro hx
  by_cases e:x=w
  ·exact .inl e
  ·exact .inr ⟨hx,e⟩
 ·rintro (e | e)
  ·rw[e];exact hw
  ·exact e.1
theorem dQ (h:E.Nodup)(hw:w∈E):(rm E w).length+1=E.length:=by
 have:=(iG h hw).length_eq
 rw[aq] at this;omega
theorem Vs (h:E.Nodup)(hw:w∈E)(hb:Bal E (beg w) b):Bal (rm E w) (fin w) b:=hb.rest (us:=[w]) (iG h hw) ⟨rfl,rfl⟩
theorem tW (h:E.Nodup)(hw:w∈E)(f:W->W)(v:W):cnt f E v=(if f w=v then 1 else 0)+cnt f (rm E w) v:=by
 rw[uK f (iG h hw),nY]
theorem Np (h:beg w≠t):og (rm E w) t=og E t:=by
 unfold og rm;rw[ki];refine k9 fun x _=>?_
 by_cases e:beg x=t
 ·have:x≠w:=fun z=>h (by rw[<- z];exact e)
  simp[e,this]
 ·simp[e]
theorem Df (h:beg w=t):og (rm E w) t=(og E t).filter fun x=>!decide (x=w):=by
 unfold og rm;rw[ki,ki];refine k9 fun x _=>?_
 rw[Bool.and_comm]
end
def cH:Nat->List W->W->W->List (List W)
 | 0,_,a,b=>if a=b then [[]] else []
 | n+1,E,a,b=>(og E a).flatMap fun w=>(cH n (rm E w) (fin w) b).map fun us=>w::us
def eN (E:List W)(a b:W):Nat:=(cH E.length E a b).length
theorem eG:∀ {n:Nat} {E:List W} {a b:W} {us:List W},E.length=n->E.Nodup->(us∈cH n E a b↔us.Perm E∧Tr beg fin a us b)
 | 0,E,a,b,us,hl,_=>by
  obtain rfl:=bh.mp hl;show us∈(if a=b then [[]] else [])↔_;constructor
  ·intro h
   by_cases e:a=b
   ·rw[if_pos e] at h
    rw[a7.mp h];exact⟨.nil,e⟩
   ·rw[if_neg e] at h
    cases h
  ·rintro⟨h1,h2⟩
   obtain rfl:=nk.mp h1;have e:a=b:=h2;rw[if_pos e];exact a7.mpr rfl
 | n+1,E,a,b,us,hl,hn=>by
  show us∈(og E a).flatMap (fun w=>(cH n (rm E w) (fin w) b).map fun us=>w::us)↔_;rw[jd];constructor
  ·rintro⟨w,hw,h⟩
   obtain⟨vs,hv,rfl⟩:=ao.mp h;obtain⟨hwE,hwb⟩:=cD.mp hw;have hl':(rm E w).length=n:=by have:=dQ hn hwE;omega
   obtain⟨h1,h2⟩:=(eG hl' (dH hn)).mp hv;exact⟨(h1.cons w).trans (iG hn hwE).symm,hwb,h2⟩
  ·rintro⟨h1,h2⟩
   cases us with
   | nil=>rw[<- h1.length_eq] at hl;cases hl
   | cons w vs =>
    have hwE:w∈E:=h1.mem_iff.mp (al ..);have hl':(rm E w).length=n:=by have:=dQ hn hwE;omega
    refine⟨w,cD.mpr ⟨hwE,h2.1⟩,ao.mpr ⟨vs,(eG hl' (dH hn)).mpr ⟨?_,h2.2⟩,rfl⟩⟩;exact ((h1.trans (iG hn hwE)).cons_inv)
theorem Qr:∀ {n:Nat} {E:List W} {a b:W},E.length=n->E.Nodup->(cH n E a b).Nodup
 | 0,E,a,b,_,_=>by
  show (if a=b then [[]] else []).Nodup;split <;> simp
 | n+1,E,a,b,hl,hn=>by
  show ((og E a).flatMap fun w=>(cH n (rm E w) (fin w) b).map fun us=>w::us).Nodup;have key:∀ l:List W,l.Nodup->(∀ w∈l,w∈E)->(l.flatMap fun w=>(cH n (rm E w) (fin w) b).map fun us=>w::us).Nodup:=fun l=>by
   induction l with
   | nil=>intro _ _;exact gu
   | cons w l ih =>
    intro h1 h2;rw[bv] at h1;rw[cm];have hwE:=h2 w (al ..);refine d9.mpr ⟨?_,ih h1.2 fun x hx=>h2 x (aj _ hx),fun x hx y hy e=>?_⟩
    ·exact de.mpr ((Qr (by have:=dQ hn hwE;omega) (dH hn)).imp fun h z=>h (jq z).2)
    ·obtain⟨us,_,rfl⟩:=ao.mp hx
     obtain⟨v,hv,hy⟩:=jd.mp hy;obtain⟨vs,_,rfl⟩:=ao.mp hy;exact h1.1 ((jq e).1▸hv)
  exact key _ (hn.sublist j9) fun w hw=>(cD.mp hw).1
theorem Gi {E:List W}(hn:E.Nodup){a b:W}(hne:E≠[]):eN E a b=((og E a).map fun w=>eN (rm E w) (fin w) b).sum:=by
 obtain⟨n,hl⟩:∃ n,E.length=n+1:=⟨E.length-1,by have:=cn.mpr hne;omega⟩;unfold eN;rw[hl];show ((og E a).flatMap fun w=>(cH n (rm E w) (fin w) b).map fun us=>w::us).length=_;rw[gz]
 congr 1
 refine ay fun w hw=>?_
 have:=dQ hn (cD.mp hw).1
 rw[aR,show (rm E w).length=n by omega]
theorem oQ {E:List W}(hn:E.Nodup){a b:W}(h:¬ Bal E a b):eN E a b=0:=by
 unfold eN;rw[bh,gm];intro us hu;obtain⟨h1,h2⟩:=(eG rfl hn).mp hu;exact h ((uV h2).perm h1)
def Txs (E:List W)(b:W)(ts:List W):Prop:=ts.Nodup∧∀ t,t∈ts↔t≠b∧∃ w∈E,beg w=t
def bst (E:List W)(b:W)(ts:List W):Nat:=fct (cnt beg E b)*pF (cnt beg E) ts*nC ts (og E)
theorem Txs.perm {E:List W}{b:W}{ts us:List W}(h1:Txs E b ts)(h2:Txs E b us):ts.Perm us:=(dq h1.1 h2.1).mpr fun t=>by rw[h1.2,h2.2]
theorem Ru {E:List W}{b:W}{ts us:List W}(h1:Txs E b ts)(h2:Txs E b us):bst E b ts=bst E b us:=by
 unfold bst;rw[Tp (h1.perm h2),Ge (h1.perm h2) h1.1]
def nW (ts:List W)(a:W)(g:W->List W)(w:W):Nat:=((chs g ts).filter fun f=>cmT (a::ts) (fK f a w)).length
theorem rO {ts:List W}{a:W}{g:W->List W}:nC (a::ts) g=((g a).map (nW ts a g)).sum:=by
 show (((chs g ts).flatMap fun f=>(g a).map fun w=>fK f a w).filter (cmT (a::ts))).length=((g a).map fun w=>((chs g ts).filter fun f=>cmT (a::ts) (fK f a w)).length).sum;generalize chs g ts=l
 induction l with
 | nil =>
  show 0=((g a).map fun w=>0).sum;generalize g a=l
  induction l with
  | nil=>rfl
  | cons w l ih=>rw[ap,bz,<- ih]
 | cons f l ih =>
  rw[cm,gl,ak,ih];clear ih;generalize g a=m
  induction m with
  | nil=>rfl
  | cons w m ih =>
   rw[ap,ap,ap,bz,bz,cz,cz];by_cases hc:cmT (a::ts) (fK f a w)=true
   ·rw[if_pos hc,if_pos hc,aq,aq];omega
   ·rw[if_neg hc,if_neg hc];omega
theorem Pz {ts:List W}{a w:W}{g g':W->List W}(h:∀ t∈ts,g t=g' t):nW ts a g w=nW ts a g' w:=by unfold nW;rw[oT h]
theorem qH {f:W->Nat}{w:W}:∀ {l:List W},l.Nodup->w∈l->((l.filter fun x=>!decide (x=w)).map f).sum+f w=(l.map f).sum
 | x::l,hn,hw=>by
  rw[bv] at hn;by_cases e:x=w
  ·subst e
   rw[dj (by simp),ap,bz,gh.mpr fun y hy=>by have:y≠x:=fun z=>hn.1 (z▸hy);simp[this]];omega
  ·rw[dt (by simp[e]),ap,bz,ap,bz,<- qH hn.2 ((ar.mp hw).resolve_left (Ne.symm e))]
   omega
theorem Fz {S:Nat}{f h:W->Nat}:∀ {l:List W},(∀ w∈l,h w+f w=S)->(l.map h).sum+(l.map f).sum=l.length*S
 | [],_=>by simp
 | w::l,hh=>by
  have e:=hh w (al ..);have ih:=Fz (l:=l) fun x hx=>hh x (aj _ hx)
  rw[ap,bz,ap,bz,aq,g8,fo];omega
theorem jB {c:Nat}{f:W->Nat}:∀ {l:List W},(∀ w∈l,f w=c)->(l.map f).sum=l.length*c
 | [],_=>by simp
 | w::l,h=>by
  rw[ap,bz,h w (al ..),jB fun x hx=>h x (aj _ hx),aq,g8,fo,iq]
theorem uX {c:Nat}{f:W->Nat}:∀ l:List W,(l.map fun w=>c*f w).sum=c*(l.map f).sum
 | []=>rfl
 | w::l=>by rw[ap,bz,uX l,ap,bz,tj]
theorem Rm {ts:List W}{a w:W}{g:W->List W}(ha:a∉ts)(hg:g a=[w])(hw:w.drop 1≠a)(hl:∀ t∈ts,∀ x∈g t,x.drop 1≠a):nC (a::ts) g=nC ts g:=by
 rw[rO,hg];show nW ts a g w+0=_;rw[k8];unfold nW nC
 congr 1
 refine k9 fun f hf=>?_
 rw[c9,zO,zO];have hm:∀ t∈ts,f t∈g t:=yU hf;constructor
 ·intro h χ hc t ht
  refine h χ (fun u hu=>?_) t ht;obtain⟨h1,h2⟩:=hc u hu;have hne:u≠a:=fun z=>ha (z▸h1)
  exact⟨aj _ h1,by rw[rD hne];exact h2⟩
 ·intro h χ hc t ht
  have key:=h (fun u=>χ u∧u≠a) fun u ⟨h1,h2⟩=>by
   obtain⟨h3,h4⟩:=hc u h1;rw[rD h2] at h4;have hu:=(ar.mp h3).resolve_left h2;exact⟨hu,h4,hl u hu _ (hm u hu)⟩
  have hat:∀ u,χ u->u=a:=fun u hu=>a5 fun z=>key u ⟨hu,z⟩
  obtain rfl:=hat t ht;have h2:=(hc t ht).2;rw[pT] at h2;exact hw (hat _ h2)
theorem Ot {ts:List W}{g:W->List W}(hne:ts≠[])(h:∀ t∈ts,∀ x∈g t,x.drop 1∈ts):nC ts g=0:=by
 unfold nC;rw[bh,ge];intro f hf hc;obtain⟨t,ht⟩:=ii _ hne;exact zO.mp hc (fun u=>u∈ts) (fun u hu=>⟨hu,h u hu _ (yU hf u hu)⟩) t ht
theorem Nr {E:List W}{b:W}(hb:Bal E b b)(v:W):cnt beg E v=cnt fin E v:=by
 have:=hb v
 omega
theorem Rr:∀ (n:Nat) {E:List W} {a b:W} {ts:List W},E.length=n->E.Nodup->Bal E a b->Txs E b ts->eN E a b=bst E b ts
 | 0,E,a,b,ts,hl,hn,hb,ht=>by
  obtain rfl:=bh.mp hl;have hab:a=b:=by
   have h:=hb a;rw[if_pos (rfl:a=a)] at h;refine a5 fun z=>?_
   rw[if_neg z] at h;cases h
  obtain rfl:ts=[]:=gm.mpr fun t h=>by
   obtain⟨_,w,hw,_⟩:=(ht.2 t).mp h;cases hw
  show (if a=b then [[]] else ([]:List (List W))).length=1;rw[if_pos hab];rfl
 | n+1,E,a,b,ts,hl,hn,hb,ht=>by
  have hne:E≠[]:=fun z=>by rw[z] at hl;cases hl
  rw[Gi hn hne];have hlw:∀ w∈og E a,(rm E w).length=n:=fun w hw=>by have:=dQ hn (cD.mp hw).1;omega
  have hbw:∀ w∈og E a,Bal (rm E w) (fin w) b:=fun w hw=>by
   obtain⟨h1,h2⟩:=cD.mp hw;exact Vs hn h1 (h2.symm▸hb)
  by_cases hab:a=b
  ·subst hab
   by_cases h0:cnt beg E a=0
   ·have e:og E a=[]:=bh.mp h0
    rw[e];show 0=fct _*_*nC ts (og E);have hin:∀ w∈E,fin w∈ts:=fun w hw=>by
     have h1:0<cnt fin E (fin w):=dl (cc.mpr ⟨hw,decide_eq_true rfl⟩);rw[<- Nr hb] at h1;obtain⟨x,hx⟩:=d0 h1;obtain⟨hx1,hx2⟩:=cc.mp hx;refine (ht.2 _).mpr ⟨fun z=>?_,x,hx1,of_decide_eq_true hx2⟩;rw[z,h0] at h1;cases h1
    obtain⟨w,hw⟩:=ii _ hne;rw[Ot (qu (hin w hw)) fun t _ x hx=>hin x (cD.mp hx).1,rf]
   ·have hc:∀ w∈og E a,eN (rm E w) (fin w) a=fct (cnt beg E a-1)*pF (cnt beg E) ts*nC ts (og E):=fun w hw=>by
     obtain⟨hw1,hw2⟩:=cD.mp hw;have htw:Txs (rm E w) a ts:=⟨ht.1,fun t=>by
      rw[ht.2];constructor
      ·rintro⟨h1,x,h2,h3⟩
       exact⟨h1,x,dY.mpr ⟨h2,fun z=>h1 (by rw[<- h3,z,hw2])⟩,h3⟩
      ·rintro⟨h1,x,h2,h3⟩
       exact⟨h1,x,(dY.mp h2).1,h3⟩⟩
     rw[Rr n (hlw w hw) (dH hn) (hbw w hw) htw];unfold bst;have e1:=tW hn hw1 beg a;rw[if_pos hw2] at e1;rw[show cnt beg (rm E w) a=cnt beg E a-1 by omega];rw[tN (c':=cnt beg E) fun t ht'=>by
      have e2:=tW hn hw1 beg t;rw[if_neg (fun z=>((ht.2 t).mp ht').1 (by rw[<- z,hw2]))] at e2;omega]
     rw[Bi (g':=og E) fun t ht'=>Np (fun z=>((ht.2 t).mp ht').1 (by rw[<- z,hw2]))]
    rw[jB hc,sK];unfold bst;obtain⟨m,hm⟩:∃ m,cnt beg E a=m+1:=⟨cnt beg E a-1,by omega⟩;rw[hm];show (m+1)*(fct m*_*_)=(m+1)*fct m*_*_;rw[dy,dy,dy]
  ·have hca:cnt beg E a=cnt fin E a+1:=by
    have:=hb a
    rw[if_neg hab,if_pos rfl] at this;omega
   have hat:a∈ts:=by
    obtain⟨w,hw⟩:=d0 (show 0<(og E a).length by rw[sK];omega);exact (ht.2 a).mpr ⟨hab,w,cD.mp hw⟩
   obtain⟨us,hp⟩:∃ us,ts.Perm (a::us):=⟨ts.erase a,l5 hat⟩;have ht':Txs E b (a::us):=⟨hp.nodup_iff.mp ht.1,fun t=>by rw[<- hp.mem_iff];exact ht.2 t⟩;rw[Ru ht ht'];have hau:a∉us:=(bv.mp ht'.1).1;have hcu:∀ w∈og E a,pF (cnt beg (rm E w)) us=pF (cnt beg E) us:=fun w hw=>tN fun t htu=>by
    obtain⟨hw1,hw2⟩:=cD.mp hw;have e2:=tW hn hw1 beg t;rw[if_neg (fun z=>hau (by rw[<- hw2,z];exact htu))] at e2;omega
   have hcb:∀ w∈og E a,cnt beg (rm E w) b=cnt beg E b:=fun w hw=>by
    obtain⟨hw1,hw2⟩:=cD.mp hw;have e2:=tW hn hw1 beg b;rw[if_neg (fun z=>hab (by rw[<- hw2,z]))] at e2;omega
   by_cases h1:cnt beg E a=1
   ·obtain⟨w,hw⟩:=List.length_eq_one_iff.mp (show (og E a).length=1 from h1)
    have hwm:w∈og E a:=by rw[hw];exact a7.mpr rfl
    obtain⟨hw1,hw2⟩:=cD.mp hwm;have hnf:∀ x∈E,x.drop 1≠a:=fun x hx z=>by
     have:0<cnt fin E a:=dl (cc.mpr ⟨hx,decide_eq_true z⟩)
     omega
    have htw:Txs (rm E w) b us:=⟨(bv.mp ht'.1).2,fun t=>by
     constructor
     ·intro htu
      obtain⟨h3,x,h4,h5⟩:=(ht'.2 t).mp (aj _ htu);exact⟨h3,x,dY.mpr ⟨h4,fun z=>hau (by rw[<- hw2,<- z,h5];exact htu)⟩,h5⟩
     ·rintro⟨h3,x,h4,h5⟩
      obtain⟨h6,h7⟩:=dY.mp h4;refine (ar.mp ((ht'.2 t).mpr ⟨h3,x,h6,h5⟩)).resolve_left fun z=>h7 ?_
      have:x∈og E a:=cD.mpr ⟨h6,h5.trans z⟩
      rw[hw] at this;exact a7.mp this⟩
    rw[hw];show eN (rm E w) (fin w) b+0=_;rw[k8,Rr n (hlw w hwm) (dH hn) (hbw w hwm) htw];unfold bst;rw[hcb w hwm,hcu w hwm,Rm hau hw (hnf w hw1) fun t _ x hx=>hnf x (cD.mp hx).1];rw[Bi (g':=og E) fun t htu=>Np (fun z=>hau (by rw[<- hw2,z];exact htu))];show fct _*pF _ us*_=fct _*(fct (cnt beg E a-1)*pF _ us)*_;rw[h1];show _=fct _*(1*pF _ us)*_;rw[fo]
   ·have hc:∀ w∈og E a,eN (rm E w) (fin w) b=fct (cnt beg E b)*(fct (cnt beg E a-2)*pF (cnt beg E) us)*nC (a::us) (og (rm E w)):=fun w hw=>by
     obtain⟨hw1,hw2⟩:=cD.mp hw;have e1:=tW hn hw1 beg a;rw[if_pos hw2] at e1;have htw:Txs (rm E w) b (a::us):=⟨ht'.1,fun t=>by
      rw[ht'.2];constructor
      ·rintro⟨h3,x,h4,h5⟩
       by_cases hta:t=a
       ·obtain⟨y,hy⟩:=d0 (show 0<(og (rm E w) a).length by rw[sK];omega)
        exact⟨h3,y,(cD.mp hy).1,by rw[(cD.mp hy).2,hta]⟩
       ·exact⟨h3,x,dY.mpr ⟨h4,fun z=>hta (by rw[<- h5,z,hw2])⟩,h5⟩
      ·rintro⟨h3,x,h4,h5⟩
       exact⟨h3,x,(dY.mp h4).1,h5⟩⟩
     rw[Rr n (hlw w hw) (dH hn) (hbw w hw) htw];unfold bst;rw[hcb w hw];show _*(fct (cnt beg (rm E w) a-1)*pF (cnt beg (rm E w)) us)*_=_;rw[hcu w hw,show cnt beg (rm E w) a-1=cnt beg E a-2 by omega]
    rw[ay hc,uX];have hS:∀ w∈og E a,nC (a::us) (og (rm E w))+nW us a (og E) w=nC (a::us) (og E):=fun w hw=>by
     obtain⟨hw1,hw2⟩:=cD.mp hw;rw[rO,rO,Df hw2,<- qH (l:=og E a) (f:=nW us a (og E)) (hn.sublist j9) hw]
     congr 2
     refine ay fun x _=>Pz fun t htu=>Np (fun z=>hau (by rw[<- hw2,z];exact htu))
    have hsum:=Fz hS;rw[<- rO (g:=og E),sK] at hsum;unfold bst;show _=fct (cnt beg E b)*(fct (cnt beg E a-1)*pF (cnt beg E) us)*nC (a::us) (og E);obtain⟨m,hm⟩:∃ m,cnt beg E a=m+2:=⟨cnt beg E a-2,by omega⟩;rw[hm] at hsum ⊢;have e3:((og E a).map fun w=>nC (a::us) (og (rm E w))).sum=(m+1)*nC (a::us) (og E):=by
     rw[show m+2=(m+1)+1 from rfl,g8,fo] at hsum;omega
    rw[e3];show fct _*(fct m*_)*((m+1)*_)=fct _*((m+1)*fct m*_)*_;generalize fct (cnt beg E b)=A;generalize fct m=B;generalize pF (cnt beg E) us=C;generalize nC (a::us) (og E)=D;rw[dy (m+1) B C,rn A (m+1) (B*C),dh (m+1) (A*(B*C)),dy (A*(B*C)) (m+1) D]
def uW (e:W)(us:List W):List W:=us.drop (us.idxOf e)++us.take (us.idxOf e)
theorem yW:∀ {xs ys:List W} {p q:W},Tr beg fin p (xs++ys) q↔∃ r,Tr beg fin p xs r∧Tr beg fin r ys q
 | [],ys,p,q=>⟨fun h=>⟨p,rfl,h⟩,fun ⟨r,h1,h2⟩=>by have e:p=r:=h1;rw[e];exact h2⟩
 | x::xs,ys,p,q=>by
  constructor
  ·rintro⟨h1,h2⟩
   obtain⟨r,h3,h4⟩:=yW.mp h2;exact⟨r,⟨h1,h3⟩,h4⟩
  ·rintro⟨r,⟨h1,h3⟩,h4⟩
   exact⟨h1,yW.mpr ⟨r,h3,h4⟩⟩
theorem uI {e:W}{us:List W}(h:e∈us):∃ xs ys,us=xs++e::ys∧e∉xs:=by
 induction us with
 | nil=>cases h
 | cons x us ih =>
  by_cases hx:x=e
  ·exact⟨[],us,by rw[hx];rfl,fun z=>by cases z⟩
  ·obtain⟨xs,ys,h1,h2⟩:=ih ((ar.mp h).resolve_left (Ne.symm hx))
   exact⟨x::xs,ys,by rw[h1];rfl,fun z=>(ar.mp z).elim (fun w=>hx w.symm) h2⟩
theorem Al {e:W}{xs ys:List W}(h:e∉xs):(xs++e::ys).idxOf e=xs.length:=by
 induction xs with
 | nil=>rw[ma,List.idxOf_cons_self];rfl
 | cons x xs ih =>
  have hx:x≠e:=fun z=>h (z▸al ..)
  rw[fz,List.idxOf_cons,ih fun z=>h (aj _ z),beq_false_of_ne hx];rfl
theorem fV {e:W}{xs ys:List W}(h:e∉xs):uW e (xs++e::ys)=e::(ys++xs):=by
 unfold uW;rw[Al h,List.drop_left,List.take_left];rfl
theorem Bk {e e':W}{us:List W}(hn:(e::us).Nodup)(h:e'∈e::us):uW e (uW e' (e::us))=e::us:=by
 obtain⟨xs,ys,h1,h2⟩:=uI h;rw[h1,fV h2]
 cases xs with
 | nil =>
  have h3:e=e':=(jq h1).1;subst h3;rw[df,ma]
  have:=fV (e:=e) (xs:=[]) (ys:=ys) (fun z=>by cases z)
  rw[ma,df] at this;exact this
 | cons x xs =>
  obtain⟨h3,h4⟩:=jq h1;subst h3;have hne:e∉e'::ys:=fun z=>by
   rw[bv,h4] at hn;exact hn.1 (br _ z)
  rw[show e'::(ys++e::xs)=(e'::ys)++e::xs from rfl,fV hne];rfl
def rds (E:List W)(e:W):List (List W):=cH (rm E e).length (rm E e) (fin e) (beg e)
theorem nV {E:List W}{e:W}{us:List W}(hn:E.Nodup)(he:e∈E):us∈rds E e↔(e::us).Perm E∧Tr beg fin (beg e) (e::us) (beg e):=by
 unfold rds;rw[eG rfl (dH hn)];constructor
 ·rintro⟨h1,h2⟩
  exact⟨(h1.cons e).trans (iG hn he).symm,rfl,h2⟩
 ·rintro⟨h1,_,h2⟩
  exact⟨(h1.trans (iG hn he)).cons_inv,h2⟩
theorem Mn {E:List W}{e e':W}(hn:E.Nodup)(he:e∈E)(he':e'∈E):(rds E e).length<=(rds E e').length:=by
 have inj:((rds E e).map fun us=>(uW e' (e::us)).tail).Nodup:=by
  refine de.mpr (fh (fun {x y} hx hy hne heq=>hne ?_) (Qr rfl (dH hn)));obtain⟨p1,_⟩:=(nV hn he).mp hx;obtain⟨p2,_⟩:=(nV hn he).mp hy;have n1:=p1.nodup_iff.mpr hn;have n2:=p2.nodup_iff.mpr hn;have m1:e'∈e::x:=p1.mem_iff.mpr he';have m2:e'∈e::y:=p2.mem_iff.mpr he';have hd:∀ {z:List W},e'∈e::z->uW e' (e::z)=e'::(uW e' (e::z)).tail:=fun {z} hz=>by
   obtain⟨xs,ys,h1,h2⟩:=uI hz;rw[h1,fV h2];rfl
  have e1:=Bk n1 m1;have e2:=Bk n2 m2;rw[hd m1,heq,<- hd m2,e2] at e1;exact (jq e1).2.symm
 have:=Hg.kI (ms:=rds E e') inj fun z hz=>by
  obtain⟨us,hu,rfl⟩:=ao.mp hz;obtain⟨h1,h2⟩:=(nV hn he).mp hu;obtain⟨xs,ys,h3,h4⟩:=uI (h1.mem_iff.mpr he');rw[h3,fV h4];show ys++xs∈_;rw[h3] at h1 h2;obtain⟨r,t1,t2⟩:=yW.mp h2;have hr:beg e'=r:=t2.1;subst hr;refine (nV hn he').mpr ⟨?_,rfl,yW.mpr ⟨_,t2.2,t1⟩⟩;refine pb ?_ h1;exact (le (l₁:=e'::ys) (l₂:=xs))
 rw[aR] at this;exact this
theorem Mi {E:List W}{e e':W}(hn:E.Nodup)(he:e∈E)(he':e'∈E):eN (rm E e) (fin e) (beg e)=eN (rm E e') (fin e') (beg e') :=
 Nat.le_antisymm (Mn hn he he') (Mn hn he' he)
theorem zW {E:List W}{e:W}(hn:E.Nodup)(he:e∈E){p:W}:eN E p p=cnt beg E p*eN (rm E e) (fin e) (beg e):=by
 rw[Gi hn (qu he),jB (c:=eN (rm E e) (fin e) (beg e)) fun w hw=>?_,sK];obtain⟨h1,h2⟩:=cD.mp hw;rw[<- h2];exact Mi hn h1 he
theorem Tq {E:List W}{p:W}(h:Bal E p p)(v:W):Bal E v v:=fun u=>by
 have:=h u
 omega
theorem yZ:∀ {n:Nat},n<=64->fct n<=64 ^ n
 | 0,_=>af 1
 | n+1,h=>by
  show (n+1)*fct n<=64 ^ (n+1);rw[j5,dh];exact fg (yZ (by omega)) (by omega)
theorem sC (n:Nat):fct (n-1)<=fct n:=by
 cases n with
 | zero=>exact af _
 | succ n=>show fct n<=(n+1)*fct n;exact Nat.le_mul_of_pos_left _ (ou n)
theorem Uz {c:W->Nat}:∀ {ts:List W},(∀ t∈ts,c t<=64)->pF c ts<=64 ^ (ts.map c).sum
 | [],_=>af 1
 | t::ts,h=>by
  show fct (c t-1)*pF c ts<=_;rw[ap,bz,jh];exact fg (av (sC _) (yZ (h t (al ..)))) (Uz fun u hu=>h u (aj _ hu))
theorem Fx {c:W->Nat}{t:W}:∀ ts:List W,pF c (ts++[t])=pF c ts*fct (c t-1)
 | []=>by show fct _*1=1*fct _;omega
 | u::ts=>by
  show fct _*pF c (ts++[t])=fct _*pF c ts*_;rw[Fx ts,dy]
theorem sV {α:Type}(p:α->Bool):∀ l:List α,(l.filter p).length+(l.filter fun x=>!p x).length=l.length
 | []=>rfl
 | x::l=>by
  have ih:=sV p l;by_cases h:p x=true
  ·rw[dt h,dj (by simp[h]),aq,aq];omega
  ·rw[dj h,dt (by simp[h]),aq,aq];omega
theorem yQ {E:List W}:∀ {ts:List W},ts.Nodup->(ts.map (cnt beg E)).sum<=E.length
 | [],_=>by simp
 | t::ts,nd=>by
  rw[bv] at nd;have ih:=yQ (E:=E.filter fun l=>!decide (beg l=t)) nd.2;rw[ap,bz];have e:ts.map (cnt beg (E.filter fun l=>!decide (beg l=t)))=ts.map (cnt beg E):=ay fun u hu=>by
   unfold cnt;rw[ki]
   congr 1
   refine k9 fun l _=>?_
   by_cases h:beg l=u
   ·have hne:u≠t:=fun z=>nd.1 (z▸hu)
    simp[h,hne]
   ·simp[h]
  rw[e] at ih;have h2:=sV (fun l=>decide (beg l=t)) E;exact av (j8 ih _) (ku h2)
theorem Zj {ts:List W}{g:W->List W}:nC ts g<=2 ^ (ts.map fun t=>(g t).length).sum:=av (cq ..) (sQ ts)
theorem iU {f:W->W}{v:W}:∀ {E:List W},(E.map f).count v=cnt f E v
 | []=>rfl
 | e::E=>by
  rw[ap,t8,nY,iU];by_cases h:f e=v
  ·rw[if_pos (by rw[h];exact beq_self_eq_true v),if_pos h];omega
  ·rw[if_neg (by intro z;exact h (eq_of_beq z)),if_neg h];omega
theorem Tj {E:List W}{a b:W}:(E.map beg++[b]).Perm (E.map fin++[a])↔Bal E a b:=by
 rw[List.perm_iff_count];have e:∀ (x v:W),([x]:List W).count v=if v=x then 1 else 0:=fun x v=>by
  rw[t8,List.count_nil];by_cases h:v=x
  ·rw[if_pos h,if_pos (by rw[h];exact beq_self_eq_true x)]
  ·rw[if_neg h,if_neg (by intro z;exact h (eq_of_beq z).symm)]
 unfold Bal;constructor
 ·intro h v
  have:=h v
  rw[lb,lb,iU,iU,e,e] at this;exact this
 ·intro h v
  rw[lb,lb,iU,iU,e,e];exact h v
theorem Dz {E us:List W}(hn:E.Nodup){a b:W}(h1:us.Perm E)(h2:Tr beg fin a us b):0<eN E a b:=dl ((eG rfl hn).mpr ⟨h1,h2⟩)
theorem Cv {E:List W}(hn:E.Nodup){a b:W}(h:0<eN E a b):Bal E a b:=a5 fun z=>by rw[oQ hn z] at h;cases h
theorem zY {E:List W}(hn:E.Nodup){a b t:W}(h:0<eN E a b)(ht:t≠a):eN E t b=0:=oQ hn fun z=>by
 have h1:=Cv hn h t;have h2:=z t;rw[if_neg ht] at h1;rw[if_pos rfl] at h2;omega
end Dt
namespace Wd
def it (f:W->W):Nat->W->W
 | 0,w=>w
 | k+1,w=>f (it f k w)
section
variable {f:W->W}{L:List W}{w:W}{p:Nat}
end
section
variable {f:W->W}{r:W}{n:Nat}{L:List W}
theorem sP {p:W->Bool}{w0:W}:∀ {L:List W},L.Nodup->w0∈L->(∀ w∈L,p w=true↔w=w0)->L.filter p=[w0]
 | [],_,h,_=>by simp at h
 | x::L,hnd,hm,hp=>by
  rw[bv] at hnd;by_cases e:x=w0
  ·subst e
   have hx:=(hp x (al ..)).mpr rfl;rw[cz,if_pos hx]
   have:L.filter p=[]:=ge.mpr fun y hy z=>by
    have:=(hp y (aj _ hy)).mp z
    exact hnd.1 (this▸hy)
   rw[this]
  ·have hx:¬ p x=true:=fun z=>e ((hp x (al ..)).mp z)
   rw[cz,if_neg hx];have hm':w0∈L:=by
    rcases ar.mp hm with z | z
    ·exact absurd z.symm e
    ·exact z
   exact sP hnd.2 hm' fun w hw=>hp w (aj _ hw)
end
open Hg
def bU (w:W):Nat:=w.getD (w.length-1) 0
section
variable {ms us xs ys:List W}{p q r t e w0:W}{n:Nat}
theorem rB {w:W}(h:1<=w.length):w=beg w++[bU w]:=by
 unfold beg bU
 conv=>lhs;rw[<- ie (w.length-1) w]
 congr 1
 rw[ij (by omega),List.drop_eq_nil_of_le (by omega),ai,aa (by omega)];rfl
theorem Gf {w:W}:(beg w).length=w.length-1:=by unfold beg;rw[a6];omega
theorem sA (hn:1<=n):∀ (k:Nat) {us:List W} {p q:W},us.length=k->Tr beg fin p us q->p.length=n-1->(∀ w∈us,w.length=n)->kE (p++us.map bU) n=us∧(p++us.map bU).drop us.length=q
 | 0,us,p,q,hk,h,hp,hl=>by
  obtain rfl:us=[]:=bh.mp hk;refine⟨?_,?_⟩
  ·unfold kE
   rw[ip,df,hp,show n-1+1-n=0 by omega];rfl
  ·rw[ip,df,jn,gd];exact h
 | k+1,us,p,q,hk,h,hp,hl=>by
  have hne:us≠[]:=fun z=>by rw[z] at hk;cases hk
  obtain⟨xs,w,rfl⟩:∃ xs w,us=xs++[w]:=⟨us.dropLast,us.getLast hne,(l9 hne).symm⟩;obtain⟨t1,rfl⟩:=Tr.cut (p:=p) h;rw[ak,b7] at hk;obtain⟨h1,h2⟩:=sA hn k (by omega) t1 hp fun w hw=>hl w (im _ hw)
  have hw:=hl w (by simp);have hlen:(p++xs.map bU).length=n-1+xs.length:=by rw[ak,aR,hp]
  have e:p++(xs++[w]).map bU=(p++xs.map bU)++[bU w]:=by rw[bc,<- c6];rfl
  have hs:=rB (w:=w) (by omega);refine⟨?_,?_⟩
  ·rw[e,Iy hn (by omega),h1,hlen,show n-1+xs.length+1-n=xs.length by omega,h2,<- hs]
  ·rw[e,ak,b7,<- ue,ji (by omega),h2,<- hs]
   rfl
theorem Ix (hn:1<=n)(h:Tr beg fin p us p)(hp:p.length=n-1)(hl:∀ w∈us,w.length=n)(h0:0<us.length):dG ((p++us.map bU).take us.length) n=us:=by
 obtain⟨h1,h2⟩:=sA hn _ rfl h hp hl;rw[Br h0 hn (by rw[ak,aR,hp];omega) (by rw[h2,l0 (by omega),cj (by omega)]),h1]
theorem Cb {t:W}:Tr beg fin (beg (bX t n 0)) (dG t n) (beg (bX t n 0)):=by
 have hs:=Sz (t:=t) (n:=n) (i:=0) (j:=t.length) (b6 _)
 rwa [Hc,Ec] at hs
end
section
variable {ms us vs:List W}{p q m0 t:W}{n:Nat}
theorem gK {c d:Nat}{a b:W}:c::a<d::b↔c<d∨(c=d∧a<b):=List.cons_lt_cons_iff
theorem Gu (hn:1<=n):(dG t n).map hd=t:=by
 rw[<- Hc,Wf hn (af _),Vp]
theorem Nb (hn:1<=n)(hl:∀ w∈dG t n,w.length=n)(h0:0<t.length)(hm:bX t n 0=m0)(hm0:m0.length=n):(beg m0++(dG t n).map bU).take t.length=t:=by
 have htr:Tr beg fin (beg m0) (dG t n) (beg m0):=hm▸Cb;have hr:=Ix hn htr (by rw[Gf,hm0]) hl (by rw[gO];exact h0);rw[gO] at hr;rw[<- Gu (t:=(beg m0++(dG t n).map bU).take t.length) hn,hr,Gu hn]
end
end Wd
namespace Dt
open Wd Hg
theorem Ox {α β:Type}{f:α->List β}{x:α}{l:List α}{k:Nat}:((x::l).flatMap f)[k]?=if k<(f x).length then (f x)[k]? else (l.flatMap f)[k-(f x).length]?:=by
 rw[cm,List.getElem?_append]
def rk (b:W):List W->List W->Nat
 | _,[]=>0
 | E,w::us=>(((og E (beg w)).filter fun x=>decide (x<w)).map fun x=>eN (rm E x) (fin x) b).sum+rk b (rm E w) us
theorem Ek {E:List W}(hn:E.Nodup)(hs:E.Pairwise fun x y=>¬ y<x):E.Pairwise (· < ·):=by
 refine u7 (fun a b h1 h2=>?_) hs hn;exact a5 fun z=>h2 (jg a b z h1)
theorem oG {E us:List W}{a b:W}{k:Nat}(hn:E.Nodup)(h:(cH E.length E a b)[k]?=some us):us.Perm E∧Tr beg fin a us b:=(eG rfl hn).mp (au h)
theorem Dp {p x y:W}:p++x<p++y↔x<y:=by
 induction p with
 | nil=>exact Iff.rfl
 | cons c p ih =>
  rw[fz,fz,gK];constructor
  ·rintro (h | h)
   ·omega
   ·exact ih.mp h.2
  ·intro h
   exact .inr ⟨rfl,ih.mpr h⟩
theorem Nm {s:W}:∀ {x y:W},x.length=y.length->x++s<y++s->x<y
 | [],[],_,h=>absurd h (du _)
 | c::x,d::y,hl,h=>by
  rw[fz,fz,gK] at h;rw[gK];rcases h with h | h
  ·exact .inl h
  ·exact .inr ⟨h.1,Nm (by simpa using hl) h.2⟩
theorem Td {w v:W}(h1:1<=w.length)(h2:1<=v.length)(hb:beg w=beg v)(h:w<v):bU w<bU v:=by
 rw[rB h1,rB h2,hb,Dp,gK] at h;rcases h with h | h
 ·exact h
 ·exact absurd h.2 (du _)
theorem Ee:∀ {n:Nat} {E:List W} {a b:W},E.length=n->E.Nodup->E.Pairwise (fun x y=>¬ y<x)->(∀ w∈E,1<=w.length)->(cH n E a b).Pairwise fun us vs=>us.map bU<vs.map bU
 | 0,E,a,b,_,_,_,_=>by
  show (if a=b then [[]] else ([]:List (List W))).Pairwise _;split <;> simp
 | n+1,E,a,b,hl,hn,hs,hlen=>by
  show ((og E a).flatMap fun w=>(cH n (rm E w) (fin w) b).map fun us=>w::us).Pairwise _;rw[List.pairwise_flatMap];refine⟨fun w hw=>?_,?_⟩
  ·have hwE:=(cD.mp hw).1
   refine de.mpr ((Ee (by have:=dQ hn hwE;omega) (dH hn) (hs.filter _) fun x hx=>hlen x (dY.mp hx).1).imp fun {us vs} h=>?_);rw[ap,ap,gK];exact .inr ⟨rfl,h⟩
  ·refine fh (fun {w v} hw hv h us hu vs hv'=>?_) ((Ek hn hs).filter _)
   obtain⟨us',_,rfl⟩:=ao.mp hu;obtain⟨vs',_,rfl⟩:=ao.mp hv';obtain⟨hw1,hw2⟩:=cD.mp hw;obtain⟨hv1,hv2⟩:=cD.mp hv;rw[ap,ap,gK];exact .inl (Td (hlen w hw1) (hlen v hv1) (hw2.trans hv2.symm) h)
def rT (m0:W)(us:List W):W:=(beg m0++(m0::us).map bU).take (us.length+1)
section
variable {m0:W}{us vs ms:List W}{n:Nat}
theorem Gv (hn:1<=n)(hl:∀ w∈m0::us,w.length=n)(h:Tr beg fin (beg m0) (m0::us) (beg m0)):beg m0++(m0::us).map bU=rT m0 us++beg m0:=by
 have h1:=(sA hn (us.length+1) (us:=m0::us) rfl h (by rw[Gf,hl m0 (al ..)]) hl).2;have h2:=ie (us.length+1) (beg m0++(m0::us).map bU);rw[show (m0::us).length=us.length+1 from rfl] at h1;rw[h1] at h2;exact h2.symm
theorem Ni (hn:1<=n)(hl:∀ w∈m0::us,w.length=n):(rT m0 us).length=us.length+1:=by
 unfold rT;rw[a6,ak,aR,aq];omega
theorem Yu (hn:1<=n)(hl:∀ w∈m0::us,w.length=n)(hl':∀ w∈m0::vs,w.length=n)(h:Tr beg fin (beg m0) (m0::us) (beg m0))(h':Tr beg fin (beg m0) (m0::vs) (beg m0))(he:us.length=vs.length)(hlt:us.map bU<vs.map bU):rT m0 us<rT m0 vs:=by
 refine Nm (s:=beg m0) (by rw[Ni hn hl,Ni hn hl',he]) ?_;rw[<- Gv hn hl h,<- Gv hn hl' h',Dp,ap,ap,gK];exact .inr ⟨rfl,hlt⟩
theorem Sv {t:W}(hn:1<=n)(hlen:∀ w∈ms,w.length=n)(hp:(dG t n).Perm ms)(hne:ms≠[])(hf:bX t n 0=m0):∃ us,dG t n=m0::us∧t=rT m0 us∧Tr beg fin (beg m0) (m0::us) (beg m0):=by
 have htl:0<t.length:=by
  have:=hp.length_eq
  rw[gO] at this
  have:=cn.mpr hne
  omega
 obtain⟨x,us,hx⟩:∃ x us,dG t n=x::us:=by
  cases e:dG t n with
  | nil=>have:=gO t n;rw[e] at this;simp at this;omega
  | cons x us=>exact⟨x,us,rfl⟩
 have hx0:x=m0:=by
  have h1:(dG t n)[0]?=some (bX t n 0):=by
   unfold dG;rw[ah,gf htl];rfl
  rw[hx,hf] at h1;exact a8 h1
 subst hx0;have hl:∀ w∈dG t n,w.length=n:=fun w hw=>hlen w (hp.mem_iff.mp hw)
 have htr:=Cb (t:=t) (n:=n);rw[hf,hx] at htr;refine⟨us,hx,?_,htr⟩;have h3:=Nb hn hl htl hf (hl x (by rw[hx];exact al ..));rw[hx] at h3;unfold rT;have h4:t.length=us.length+1:=by rw[<- gO t n,hx];rfl
 rw[<- h4];exact h3.symm
end
def reF (p q x:W):W:=if p=q then x else q
def rcF (ms:List W)(p q x:W):Nat:=eN ms x (reF p q x)
def rws (ms:List W)(p q:W)(ps:List W):List (W×List W):=ps.flatMap fun x=>(cH ms.length ms x (reF p q x)).map fun us=>(x,us)
def rX (r:W×List W):W:=r.1++r.2.map bU
section
variable {ms us ps:List W}{p q x m0:W}{n k:Nat}
theorem Hh:reF p p x=x:=if_pos rfl
theorem Qm (h:p≠q):reF p q x=q:=if_neg h
theorem Si (hn:ms.Nodup)(hm:m0∈ms):rcF ms p p x=cnt beg ms x*eN (rm ms m0) (fin m0) (beg m0):=by
 unfold rcF;rw[Hh];exact zW hn hm
theorem Lc (hn:ms.Nodup)(hm:m0∈ms)(hu:us.Perm ms)(ht:Tr beg fin p us p):0<eN (rm ms m0) (fin m0) (beg m0):=by
 have h1:=Dz hn hu ht;rw[zW hn hm] at h1;exact Nat.pos_of_mul_pos_left h1
theorem Fd (hn:ms.Nodup)(hm:m0∈ms)(hu:us.Perm ms)(ht:Tr beg fin p us q)(hpq:p≠q):eN (rm ms m0) (fin m0) (beg m0)=0:=by
 apply a5;intro z;have h1:0<eN ms (beg m0) (beg m0):=by
  rw[zW hn hm];refine ti ?_ (jk z);exact dl (cD.mpr ⟨hm,rfl⟩)
 have hb:=Tq (Cv hn h1) q;have h3:=Dz hn hu ht;have h2:=zY hn h3 (t:=q) (fun e=>hpq e.symm);have hb2:Bal ms p q:=Cv hn h3;have e1:=hb p;have e2:=hb2 p;rw[if_pos rfl,if_neg (fun e=>hpq e)] at e2;rw[if_neg (fun e=>hpq e)] at e1;omega
theorem Zz (hpq:p≠q):rcF ms p q p=eN ms p q:=by
 unfold rcF;rw[Qm hpq]
theorem Mz (hn:ms.Nodup)(hu:us.Perm ms)(ht:Tr beg fin p us q)(hpq:p≠q)(hx:x≠p):rcF ms p q x=0:=by
 unfold rcF;rw[Qm hpq];exact zY hn (Dz hn hu ht) hx
theorem yG:(rws ms p q ps).length=(ps.map (rcF ms p q)).sum:=by
 unfold rws;rw[gz]
 congr 1
 refine ay fun x _=>?_
 rw[aR];rfl
theorem Tt:(rws ms p q (x::ps))[k]?=if k<rcF ms p q x then ((cH ms.length ms x (reF p q x))[k]?).map fun us=>(x,us) else (rws ms p q ps)[k-rcF ms p q x]?:=by
 unfold rws;rw[Ox,aR,ah];rfl
theorem Om (hn:ms.Nodup){r:W×List W}(h:r∈rws ms p q ps):r.1∈ps∧r.2.Perm ms∧Tr beg fin r.1 r.2 (reF p q r.1):=by
 unfold rws at h;obtain⟨x,hx,h⟩:=jd.mp h;obtain⟨us,hu,rfl⟩:=ao.mp h;exact⟨hx,(eG rfl hn).mp hu⟩
theorem Xf {x y a b:W}(h:x<y)(hl:x.length=y.length):x++a<y++b:=by
 induction x generalizing y with
 | nil =>
  cases y with
  | nil=>exact absurd h (du _)
  | cons _ _=>cases hl
 | cons c x ih =>
  cases y with
  | nil=>cases hl
  | cons d y =>
   rw[fz,fz,gK];rcases (gK).mp h with h1 | ⟨h1,h2⟩
   ·exact .inl h1
   ·exact .inr ⟨h1,ih h2 (Nat.succ.inj hl)⟩
theorem Fl (hn:ms.Nodup)(hs:ms.Pairwise fun x y=>¬ y<x)(hl:∀ w∈ms,1<=w.length):∀ {ps:List W},ps.Pairwise (· < ·)->(∀ x∈ps,x.length=k)->(rws ms p q ps).Pairwise fun r s=>rX r<rX s
 | [],_,_=>m9
 | x::ps,hps,hk=>by
  obtain⟨h1,h2⟩:=kj.mp hps;show ((x::ps).flatMap _).Pairwise _;rw[cm,List.pairwise_append];refine⟨?_,Fl hn hs hl h2 fun y hy=>hk y (aj _ hy),?_⟩
  ·rw[de]
   exact (Ee rfl hn hs hl).imp fun h=>Dp.mpr h
  ·rintro r hr s hs'
   obtain⟨us,_,rfl⟩:=ao.mp hr;have hm:=(Om hn hs').1;exact Xf (h1 _ hm) (by rw[hk x (al ..),hk _ (aj _ hm)])
end
theorem yF {f:W->Nat}{g:W->Nat}:∀ {l:List W},(∀ x∈l,f x<=g x)->(l.map f).sum<=(l.map g).sum
 | [],_=>af _
 | x::l,h=>by
  rw[ap,ap,bz,bz];exact mw (h x (al ..)) (yF fun y hy=>h y (aj _ hy))
theorem zQ {f g:W->Nat}:∀ {l:List W},(l.map fun x=>f x+g x).sum=(l.map f).sum+(l.map g).sum
 | []=>rfl
 | x::l=>by
  rw[ap,ap,ap,bz,bz,bz,zQ (l:=l)];omega
theorem gW:∀ {l:List W},(l.map fun _=>0).sum=0
 | []=>rfl
 | x::l=>by rw[ap,bz,gW]
theorem uM {f:W->W->Nat}:∀ {l k:List W},(l.map fun x=>(k.map fun y=>f x y).sum).sum=(k.map fun y=>(l.map fun x=>f x y).sum).sum
 | [],k=>by
  rw[ip,List.sum_nil];exact gW.symm
 | x::l,k=>by
  rw[ap,bz,uM (l:=l),<- zQ]
  congr 1
theorem Ev {a:W}:∀ {ps:List W},ps.Nodup->(ps.map fun b=>(if a=b then [[]] else ([]:List (List W))).length).sum<=1
 | [],_=>b6 _
 | b::ps,h=>by
  obtain⟨h1,h2⟩:=bv.mp h;rw[ap,bz];by_cases e:a=b
  ·have h3:(ps.map fun b=>(if a=b then [[]] else ([]:List (List W))).length).sum=(ps.map fun _=>0).sum:=by
    congr 1
    refine ay fun y hy=>?_
    rw[if_neg (fun z:a=y=>h1 (by rw[<- e,z];exact hy))];rfl
   rw[if_pos e,h3,gW];exact af _
  ·rw[if_neg e]
   have:=Ev (a:=a) h2
   show 0+_<=1;omega
theorem Gd {ps:List W}(hps:ps.Nodup):∀ {k:Nat} {E:List W} {a:W},E.Nodup->E.length=k->(ps.map fun b=>(cH k E a b).length).sum<=fct k
 | 0,E,a,_,_=>Ev hps
 | k+1,E,a,hn,h=>by
  have e:(ps.map fun b=>(cH (k+1) E a b).length).sum=((og E a).map fun w=>(ps.map fun b=>(cH k (rm E w) (fin w) b).length).sum).sum:=by
   rw[uM]
   congr 1
   refine ay fun b _=>?_
   show ((og E a).flatMap _).length=_;rw[gz]
   congr 1
   exact ay fun w _=>aR ..
  rw[e];have h1:((og E a).map fun w=>(ps.map fun b=>(cH k (rm E w) (fin w) b).length).sum).sum<=((og E a).map fun _=>fct k).sum:=yF fun w hw=>Gd hps (dH hn) (by have:=dQ hn (cD.mp hw).1;omega)
  refine av h1 ?_;rw[jB (c:=fct k) fun _ _=>rfl];exact fq _ (av (cq ..) (by omega))
theorem Vt {E:List W}:∀ {ps:List W},ps.Nodup->(ps.map fun a=>(og E a).length).sum<=E.length:=by
 induction E with
 | nil =>
  intro ps _;show (ps.map fun _=>0).sum<=0;rw[gW];exact af _
 | cons x E ih =>
  intro ps hps;have e:∀ a,(og (x::E) a).length=(if beg x=a then [[]] else ([]:List (List W))).length+(og E a).length:=fun a=>by
   unfold og;by_cases h:beg x=a
   ·rw[dt (p:=fun w=>decide (beg w=a)) (decide_eq_true h),if_pos h,aq]
    exact iq _ _
   ·rw[dj (p:=fun w=>decide (beg w=a)) (fun z=>h (of_decide_eq_true z)),if_neg h]
    exact (jl _).symm
  rw[ay fun a _=>e a,zQ,aq]
  have:=Ev (a:=beg x) hps
  have:=ih hps
  omega
theorem Ja {ps qs E:List W}(hps:ps.Nodup)(hqs:qs.Nodup)(hn:E.Nodup)(hne:E≠[]):(ps.map fun a=>(qs.map fun b=>(cH E.length E a b).length).sum).sum<=fct E.length:=by
 obtain⟨k,hk⟩:∃ k,E.length=k+1:=⟨E.length-1,by have:=cn.mpr hne;omega⟩;rw[hk];have h1:(ps.map fun a=>(qs.map fun b=>(cH (k+1) E a b).length).sum).sum<=(ps.map fun a=>(og E a).length*fct k).sum:=yF fun a _=>by
  have e:(qs.map fun b=>(cH (k+1) E a b).length).sum=((og E a).map fun w=>(qs.map fun b=>(cH k (rm E w) (fin w) b).length).sum).sum:=by
   rw[uM]
   congr 1
   refine ay fun b _=>?_
   show ((og E a).flatMap _).length=_;rw[gz]
   congr 1
   exact ay fun w _=>aR ..
  rw[e];refine av (yF fun w hw=>Gd hqs (dH hn) (by have:=dQ hn (cD.mp hw).1;omega)) ?_;rw[jB (c:=fct k) fun _ _=>rfl];exact af _
 refine av h1 ?_;have h2:(ps.map fun a=>(og E a).length*fct k).sum=(ps.map fun a=>(og E a).length).sum*fct k:=by
  rw[ay fun a _=>dh _ _,uX,dh]
 rw[h2];exact fq _ (av (Vt hps) (by omega))
theorem Fe {β:Type}{f:W->List β}{z:W}:∀ {ps:List W},ps.Nodup->z∈ps->(∀ y∈ps,y≠z->f y=[])->ps.flatMap f=f z
 | [],_,h,_=>by cases h
 | y::ps,hn,hz,h=>by
  obtain⟨h1,h2⟩:=bv.mp hn;rw[cm];by_cases e:y=z
  ·subst e
   rw[km.mpr fun x hx=>h x (aj _ hx) fun e=>h1 (e▸hx),df]
  ·rw[h y (al ..) e,ma]
   exact Fe h2 ((ar.mp hz).resolve_left (Ne.symm e)) fun x hx=>h x (aj _ hx)
def kH (ms:List W)(one other:W):List W:=(cH ms.length ms one other).map fun us=>one++us.map bU
theorem uA {ps qs ms:List W}(hps:ps.Nodup)(hqs:qs.Nodup)(hn:ms.Nodup)(hne:ms≠[]):(ps.flatMap fun one=>qs.flatMap fun other=>kH ms one other).length<=fct ms.length:=by
 refine av (ku ?_) (Ja hps hqs hn hne);rw[gz]
 congr 1
 refine ay fun x _=>?_
 rw[gz]
 congr 1
 exact ay fun y _=>aR ..
theorem Pt {ms us vs:List W}{p q x y:W}(hn:ms.Nodup)(hu:us.Perm ms)(ht:Tr beg fin p us q)(hv:vs.Perm ms)(h:Tr beg fin x vs y):y=reF p q x:=by
 have b1:Bal ms p q:=(uV ht).perm hu;have b2:Bal ms x y:=(uV h).perm hv;unfold reF;by_cases e:p=q
 ·subst e
  rw[if_pos rfl];have e1:=b1 x;have e2:=b2 x;rw[if_pos rfl] at e2;apply a5;intro z;rw[if_neg fun w=>z w.symm] at e2;omega
 ·rw[if_neg e]
  have e1:=b1 q;have e2:=b2 q;rw[if_pos rfl,if_neg fun w=>e w.symm] at e1;apply a5;intro z;rw[if_neg fun w=>z w.symm] at e2;split at e2 <;> omega
theorem Ah {ms us ps:List W}{p q:W}(hn:ms.Nodup)(hu:us.Perm ms)(ht:Tr beg fin p us q)(hps:ps.Nodup)(hq:q∈ps):(ps.flatMap fun one=>ps.flatMap fun other=>kH ms one other)=(rws ms p q ps).map rX:=by
 unfold rws;rw[oa];have fc:∀ {f g:W->List W} {l:List W},(∀ x∈l,f x=g x)->l.flatMap f=l.flatMap g:=fun {f g l} h=>by
  rw[si,si,ay h]
 refine fc fun x hx=>?_
 have hz:reF p q x∈ps:=by
  unfold reF;split
  ·exact hx
  ·exact hq
 rw[Fe hps hz fun y _ hy=>?_]
 ·unfold kH
  rw[bj];rfl
 ·unfold kH
  rw[mh,gm];intro vs hv;obtain⟨h1,h2⟩:=(eG rfl hn).mp hv;exact hy (Pt hn hu ht h1 h2)
theorem xF {ms ps:List W}(hn:ms.Nodup)(h:∀ us p q,us.Perm ms->¬ Tr beg fin p us q):(ps.flatMap fun one=>ps.flatMap fun other=>kH ms one other)=[]:=by
 refine km.mpr fun x _=>km.mpr fun y _=>?_
 unfold kH;rw[mh,gm];intro vs hv;obtain⟨h1,h2⟩:=(eG rfl hn).mp hv;exact h vs x y h1 h2
theorem Ov {ms ps:List W}{p q t:W}{m:Nat}(hps:ps.Nodup)(ht:t∈ps)(hk:∀ x∈ps,x.length=m):(((rws ms p q ps).map rX).filter fun r=>decide (r.take m=t)).length=rcF ms p q t:=by
 unfold rws;rw[oa,List.filter_flatMap,Fe hps ht fun y hy hyt=>?_]
 ·rw[gh.mpr fun r hr=>?_,aR,aR]
  ·rfl
  ·obtain⟨v,hv,rfl⟩:=ao.mp hr
   obtain⟨us,_,rfl⟩:=ao.mp hv;refine decide_eq_true ?_;show (t++us.map bU).take m=t;rw[<- hk t ht,t9];rfl
 ·rw[ge]
  intro r hr z;obtain⟨v,hv,rfl⟩:=ao.mp hr;obtain⟨us,_,rfl⟩:=ao.mp hv;have z:(y++us.map bU).take m=t:=of_decide_eq_true z;rw[<- hk y hy,t9 rfl] at z;exact hyt z
end Dt
namespace Wd
open Hg
def kH (us:List W):W:=beg (us.getD 0 [])++us.map bU
section
variable {ws us vs:List W}{w0 w t p q:W}{n k:Nat}
end
end Wd
namespace L2
open PySem PySem.Spec PyProof.Rows
def tx (l:List Nat):Str:=⟨l.toArray⟩
abbrev T (l:List Nat):V:=.str (tx l)
theorem fD (l:List Nat):(tx l).length=l.length:=by simp[tx,Str.length]
theorem cW (l:List Nat):(tx l).cps.toList=l:=by simp[tx]
theorem iN (x:Str):tx x.cps.toList=x:=by cases x;simp[tx]
theorem eX {a b:List Nat}(h:tx a=tx b):a=b:=by
 have e:=congrArg (fun x:Str=>x.cps.toList) h
 simpa [tx] using e
theorem Zy {a b:List Nat}(h:T a=T b):a=b:=eX (V.str.inj h)
theorem Uu {a b:List Nat}:decide (T a=T b)=decide (a=b):=by
 rw[c9,decide_eq_true_iff,decide_eq_true_iff];exact⟨Zy,fun h=>by rw[h]⟩
theorem Wq (a b:List Nat):tx a++tx b=tx (a++b):=by
 rw[<- iN (tx a++tx b),PySem.W.KT.app_list,cW,cW]
section
variable {X:Cx}
theorem gB:OpR X (binaryOp .Add) (fun x y H Q=>∃ a,x=T a∧∃ b,y=T b∧a.length+b.length<=sizeLine∧Q (T (a++b)) H):=by
 intro pins s σ H x y v u Q I rx ry h;obtain⟨a,e1,b,e2,hz,q⟩:=h;exact Ep pins s σ H x y v u Q I rx ry ⟨tx a,tx b,e1,e2,by rw[fD,fD];exact hz,by rw[Wq];exact q⟩
theorem mZ:OpR X (compareOp .Eq) (fun x y H Q=>∃ a,x=T a∧∃ b,y=T b∧Q (.bl (decide (a=b))) H):=by
 intro pins s σ H x y v u Q I rx ry h;obtain⟨a,rfl,b,rfl,q⟩:=h;exact Uk pins s σ H _ _ v u Q I rx ry ⟨rfl,by rw[Uu];exact q⟩
theorem jV:OpR X (compareOp .NotEq) (fun x y H Q=>∃ a,x=T a∧∃ b,y=T b∧Q (.bl (!decide (a=b))) H):=by
 intro pins s σ H x y v u Q I rx ry h;obtain⟨a,rfl,b,rfl,q⟩:=h;exact Vf pins s σ H _ _ v u Q I rx ry ⟨rfl,by rw[Uu];exact q⟩
theorem dL:OpR X (compareOp .Eq) (fun x y H Q=>∃ a,x = .int a∧∃ b,y = .int b∧Q (.bl (decide (a=b))) H):=by
 intro pins s σ H x y v u Q I rx ry h;obtain⟨a,rfl,b,rfl,q⟩:=h;exact Uk pins s σ H _ _ v u Q I rx ry ⟨rfl,by rw[rF,pf];exact q⟩
theorem nG:OpR X (compareOp .NotEq) (fun x y H Q=>∃ a,x = .int a∧∃ b,y = .int b∧Q (.bl (!decide (a=b))) H):=by
 intro pins s σ H x y v u Q I rx ry h;obtain⟨a,rfl,b,rfl,q⟩:=h;exact Vf pins s σ H _ _ v u Q I rx ry ⟨rfl,by rw[rF,pf];exact q⟩
def fP (l:List Nat)(lo hi:Option Int):List Nat:=(l.drop (HT.sIx l.length 0 lo)).take (HT.sIx l.length l.length hi-HT.sIx l.length 0 lo)
theorem nD (v:Option Int)(n d:Nat):(match v with | none=>(d:Int) | some i=>max 0 (min (if i<0 then i+(n:Int) else i) (n:Int)))=((HT.sIx n d v:Nat):Int):=by
 cases v with
 | none=>rfl
 | some i =>
  show max 0 (min (if i<0 then i+(n:Int) else i) (n:Int))=(((if i<0 then (i+(n:Int)).toNat else min i.toNat n):Nat):Int);by_cases hi:i<0
  ·simp only [if_pos hi];omega
  ·simp only [if_neg hi];omega
theorem Ay (lo hi:Option Int)(n:Nat):Builtin.Str.strSliceIndices lo hi 1 n=Builtin.Str.strSliceIndices (some ((HT.sIx n 0 lo:Nat):Int)) (some ((HT.sIx n n hi:Nat):Int)) 1 n:=by
 have h1:=HT.uG n 0 (b6 _) lo;have h2:=HT.uG n n (af _) hi;have c1:=nD lo n 0;have c2:=nD hi n n;have d1:=nD (some ((HT.sIx n 0 lo:Nat):Int)) n 0;have d2:=nD (some ((HT.sIx n n hi:Nat):Int)) n n;rw[HT.eF,fm h1] at d1;rw[HT.eF,fm h2] at d2;unfold Builtin.Str.strSliceIndices;simp only [show ((1:Int)>0) from by decide,if_true];have g:∀ a b c d:Int,a=c->b=d->sliceRange a b 1=sliceRange c d 1:=fun a b c d h1 h2=>by rw[h1,h2]
 exact g _ _ _ _ (c1.trans d1.symm) (c2.trans d2.symm)
theorem Oj (l:List Nat)(lo hi:Option Int):Txt.slice (tx l) lo hi=tx (fP l lo hi):=by
 have h1:=HT.uG l.length 0 (b6 _) lo;have h2:=HT.uG l.length l.length (af _) hi;unfold Txt.slice;rw[fD,Ay];by_cases hab:HT.sIx l.length 0 lo<=HT.sIx l.length l.length hi
 ·have e:=StrLaws.sliceText_nat (tx l) hab (by rw[fD];exact h2)
  unfold StrLaws.sliceText at e;rw[fD,cW] at e;exact e
 ·have e0:Builtin.Str.strSliceIndices (some ((HT.sIx l.length 0 lo:Nat):Int)) (some ((HT.sIx l.length l.length hi:Nat):Int)) 1 l.length=[]:=by
   unfold Builtin.Str.strSliceIndices sliceRange;have n1:¬ (((HT.sIx l.length 0 lo:Nat):Int)<0):=by omega
   have n2:¬ (((HT.sIx l.length l.length hi:Nat):Int)<0):=by omega
   simp only [show ((1:Int)>0) from by decide,if_true,if_neg n1,if_neg n2];have n3:¬ (max (0:Int) (min ((HT.sIx l.length 0 lo:Nat):Int) (l.length:Int))<max (0:Int) (min ((HT.sIx l.length l.length hi:Nat):Int) (l.length:Int))):=by omega
   simp[n3]
  have e1:fP l lo hi=[]:=by
   unfold fP;rw[show HT.sIx l.length l.length hi-HT.sIx l.length 0 lo=0 by omega,jc]
  rw[e0,e1]
  cases l with
  | nil=>rfl
  | cons c r=>rfl
theorem lR:SlR X (fun x lo hi H Q=>∃ a,x=T a∧a.length<=sizeLine∧Q (T (fP a lo hi)) H):=by
 intro pins s σ H x v vl vu lo hi sl Q I rx hs pl pu h;obtain⟨a,rfl,hz,q⟩:=h;obtain⟨t,rfl⟩:=rx;obtain⟨l,hl1,hl2⟩:∃ l:Option (Int×Tok),partValue l=vl∧l.map (·.1)=lo:=by
  cases pl with
  | none=>exact⟨none,rfl,rfl⟩
  | int i t=>exact⟨some (i,t),rfl,rfl⟩
 obtain⟨u,hu1,hu2⟩:∃ u:Option (Int×Tok),partValue u=vu∧u.map (·.1)=hi:=by
  cases pu with
  | none=>exact⟨none,rfl,rfl⟩
  | int i t=>exact⟨some (i,t),rfl,rfl⟩
 refine⟨"str",_,F.slot_str_getitem.lookup,typeIs_str _ _ _,?_⟩
 have hsl:s.heap.IsSlice sl l u none:=by
  obtain⟨o,ho,hc,hd⟩:=hs;exact⟨o,ho,hc,by rw[hl1,hu1];exact hd⟩
 refine wpAny_getItem_str_slice hsl rfl ?_;have key:(if ((1:Int)==1&&(Builtin.Str.strSliceIndices lo hi 1 (tx a).length).length==(tx a).length)=true then (tx a) else ⟨((Builtin.Str.strSliceIndices lo hi 1 (tx a).length).filterMap ((tx a).cps[·]?)).toArray⟩)=tx (fP a lo hi):=Oj a lo hi;unfold sliceMade slicePicked;rw[hl2,hu2];refine post_val_or_str ⟨?_,fun t' k=>?_⟩
 ·show (Txt.slice (tx a) lo hi).length<=sizeLine
  exact av (Txt.slice_le _ _ _) (by rw[fD];exact hz)
 ·refine⟨T (fP a lo hi),H,I.tok _,⟨t',?_⟩,q⟩
  exact congrArg (fun z=>Value.str z t') key
theorem Ds (n:Nat)(l:List Nat):(Wd.rep n l).length=n*l.length:=Wd.Hx n l
theorem Kw (n:Nat)(c:Array Nat):∀ acc:Array Nat,(mq n c).foldl (· ++ ·) acc=acc++(Wd.rep n c.toList).toArray:=by
 induction n with
 | zero=>intro acc;simp[Wd.rep]
 | succ n ih =>
  intro acc;rw[qh,pd,ih];rw[Wd.sR,mm]
  congr 1
  apply Array.ext';simp
theorem Wo (n:Nat)(l:List Nat):Txt.mul (tx l) (n:Int)=tx (Wd.rep n l):=by
 unfold Txt.mul;by_cases h1:(n:Int)<1
 ·have e:n=0:=by omega
  subst e;rw[if_pos h1];rfl
 ·rw[if_neg h1]
  by_cases h2:((n:Int)==1||(tx l).length==0)=true
  ·rw[if_pos h2]
   rw[jm,beq_iff_eq,beq_iff_eq,fD] at h2;rcases h2 with h2 | h2
   ·have e:n=1:=by omega
    subst e;rw[Wd.Tx]
   ·have e:l=[]:=bh.mp h2
    subst e
    have:Wd.rep n []=[]:=bh.mp (by rw[Ds];simp)
    rw[this]
  ·rw[if_neg h2,cu,Kw]
   simp[tx]
theorem Cc:OpR X (binaryOp .Mult) (fun x y H Q=>∃ a,x=T a∧∃ n:Nat,y = .int n∧(n<=sizeLine∧n*a.length<=sizeLine)∧Q (T (Wd.rep n a)) H):=by
 intro pins s σ H x y v u Q I rx ry h;obtain⟨a,rfl,n,rfl,⟨h1,h2⟩,q⟩:=h;obtain⟨t,rfl⟩:=rx;obtain⟨t',rfl⟩:=ry;have hs:sizeLine=16777216:=sizeLine_eq;refine SB.mul ⟨?_,?_,?_⟩ fun t' k=>⟨T (Wd.rep n a),H,I.tok _,⟨t',by rw[Wo]⟩,q⟩
 ·have e1:decide ((n:Int) < -(2 ^ 63:Int))=false:=decide_eq_false (by omega)
  have e2:decide ((n:Int)≥2 ^ 63)=false:=decide_eq_false (by omega);rw[e1,e2];rfl
 ·intro hn _
  rw[fD];have h3:n*a.length<=16777216:=by omega
  intro hc;have h4:((n*a.length:Nat):Int)<=16777216:=by omega
  have hn':(0:Int)<n:=by omega
  have h5:((2 ^ 63-1)/(n:Int))*n<=2 ^ 63-1:=Int.ediv_mul_le _ (by omega);have h6:(2 ^ 63-1:Int)<((2 ^ 63-1)/(n:Int)+1)*n:=Int.lt_ediv_add_one_mul_self _ hn';have h7:((2 ^ 63-1)/(n:Int)+1)*n<=(a.length:Int)*n:=lq (by omega) (by omega);have h8:((n*a.length:Nat):Int)=(a.length:Int)*n:=by rw[fk,gq]
  omega
 ·intro hn _
  rw[fD,cu,dh];unfold Builtin.Str.tooLong;exact decide_eq_false (by omega)
theorem lL:∀ {ls:List (List Nat)} {us:List Value},bV (ls.map T) us->StrsAre us (ls.map tx)
 | [],us,r=>by
  cases r;exact .nil
 | l::ls,us,r=>by
  rw[ap] at r
  cases r with
  | cons r1 r2 =>
   obtain⟨t,rfl⟩:=r1;exact .cons _ _ (lL r2)
theorem qB:∀ (ls:List (List Nat)) (acc:Array Nat),(ls.map tx).foldl (fun acc p=>acc++(tx []).cps++p.cps) acc=acc++ls.flatten.toArray
 | [],acc=>by simp
 | l::ls,acc=>by
  rw[ap,pd,qB ls];simp[tx]
theorem Sy (ls:List (List Nat)):Txt.join (tx []) (ls.map tx)=tx ls.flatten:=by
 unfold Txt.join Builtin.Str.glued
 cases ls with
 | nil=>rfl
 | cons l ls =>
  rw[ap,List.drop_succ_cons,gd,List.headD_cons,qB];simp[tx]
theorem Fb (ls:List (List Nat)):((ls.map tx).map (·.length)).sum=ls.flatten.length:=by
 induction ls with
 | nil=>rfl
 | cons l ls ih=>rw[ap,ap,bz,ih,kx,ak,fD]
theorem Ft:MtR X "str.join" (fun x xs H Q=>x=T []∧∃ (p:Addr) (ls:List (List Nat)),xs=[.ref p]∧SqL X.K H p (ls.map T)∧ls.flatten.length<=sizeLine∧Q (T ls.flatten) H):=by
 intro pins s σ H x xs v us Q I rx rs h;obtain⟨rfl,p,ls,rfl,hq,hz,q⟩:=h;obtain⟨t,rfl⟩:=rx;obtain⟨u,rfl,ru⟩:=eZ rs;cases ru;obtain⟨its,r,pl,_⟩:=I.list hq;have hs:sizeLine=16777216:=sizeLine_eq;refine join_list pl.isList (ys:=ls.map tx) (by simpa using lL r) ?_ fun t' k=>⟨T ls.flatten,H,I.tok _,⟨t',by rw[Sy]⟩,q⟩
 rw[Fb,fD,jn,rf];omega
end
end L2
namespace L2
theorem jD {w:List Nat}{k:Nat}(h:k<=w.length):fP w (some (k:Int)) none=w.drop k:=by
 unfold fP;rw[HT.eF,HT.eO,fm h];exact cj (by rw[a9];omega)
theorem Fw {w:List Nat}{k:Nat}(h:k<=w.length):fP w none (some (k:Int))=w.take k:=by
 unfold fP;rw[HT.eF,HT.eO,fm h,gd,iu]
open PyProof.Rows PySem PySem.Spec
structure bQ (N N':List Str)(sc scope:Scope)(x:Str):Prop where
 kind:scope.kind = .function
 cell:∀ y∈scope.names,y.2≠.cell
 names:∀ y∈scope.names,y.2 = .local->scope.names.lookup y.1=some .local
 var:scope.names.lookup x=some .local
 ok:∀ y∈scope.names,y.2 = .free->sc.names.lookup y.1=some .cell∨sc.names.lookup y.1=some .free
 hd:N'[0]?=some x
 len:N'.length=N.length+1
 sub:∀ i,i<N.length->N'[i+1]?=N[i]?∨(N'[i+1]?.map fun y=>scope.names.lookup y)=some none
 noe:scope.names.lookup ("" : Str)=none
 nol:∀ y∈N'.tail,scope.names.lookup y≠some .local
 nd:N'.Nodup
def cZ (cells:List (Str×Addr)):List (Str×NameKind)->List (Str×Addr)->List (Str×Addr)
 | [],acc=>acc
 | (n,k)::r,acc=>cZ cells r (if k == .free then (n,(cells.lookup n).getD 0)::acc else acc)
theorem mV {cells:List (Str×Addr)}{y:Str}{c:Addr}:∀ (names:List (Str×NameKind)) (acc:List (Str×Addr)),(∀ z∈names,z.2 = .free->∃ c,cells.lookup z.1=some c) ->
  (acc.lookup y=some c->cells.lookup y=some c)->(cZ cells names acc).lookup y=some c->cells.lookup y=some c
 | [],acc,_,ha,h=>ha h
 | (n,k)::r,acc,hz,ha,h=>by
  unfold cZ at h;refine mV r _ (fun z hm=>hz z (aj _ hm)) (fun q=>?_) h;split at q
  ·rename_i hk
   obtain⟨c',e⟩:=hz (n,k) al (by simpa using hk);rw[je] at q;split at q
   ·rename_i he
    have:y=n:=by simpa using he
    subst this;rw[e] at q;rw[e];exact q
   ·exact ha q
  ·exact ha q
theorem Bo {cells:List (Str×Addr)}{y:Str}:∀ (names:List (Str×NameKind)) (acc:List (Str×Addr)),(∃ c,acc.lookup y=some c)->∃ c,(cZ cells names acc).lookup y=some c
 | [],acc,h=>h
 | (n,k)::r,acc,⟨c,h⟩=>by
  unfold cZ;refine Bo r _ ?_;split
  ·rw[je]
   split
   ·exact⟨_,rfl⟩
   ·exact⟨c,h⟩
  ·exact⟨c,h⟩
theorem uJ {cells:List (Str×Addr)}{y:Str}:∀ (names:List (Str×NameKind)) (acc:List (Str×Addr)),(y,NameKind.free)∈names->∃ c,(cZ cells names acc).lookup y=some c
 | (n,k)::r,acc,h=>by
  unfold cZ;rcases ar.mp h with e | h
  ·cases e
   refine Bo r _ ⟨(cells.lookup y).getD 0,?_⟩;simp
  ·exact uJ r _ h
theorem iH {scope:Scope}{env:Env}(h:∀ z∈scope.names,z.2 = .free->∃ c,env.cells.lookup z.1=some c):closureFor scope env=pure (cZ env.cells scope.names []):=by
 have gen:∀ (names:List (Str×NameKind)) (acc:List (Str×Addr)),(∀ z∈names,z.2 = .free->∃ c,env.cells.lookup z.1=some c) ->
   (forIn names acc fun (x:Str×NameKind) (r:List (Str×Addr))=>(if (x.2==NameKind.free)=true then (do let a <- cellOf env x.1;pure (ForInStep.yield ((x.1,a)::r))) else pure (ForInStep.yield r):Sem (ForInStep (List (Str×Addr)))))=(pure (cZ env.cells names acc):Sem (List (Str×Addr))):=by
  intro names
  induction names with
  | nil=>intro acc _;rfl
  | cons z r ih =>
   intro acc hz;obtain⟨n,k⟩:=z;rw[List.forIn_cons];unfold cZ;by_cases hk:(k==NameKind.free)=true
   ·obtain⟨c,e⟩:=hz (n,k) al (by simpa using hk)
    have e':env.cells.lookup n=some c:=e;simp only [hk,if_true,cellOf,e',pure_bind,Option.getD_some];exact ih _ fun z hm=>hz z (aj _ hm)
   ·simp only [hk,ck,if_false,pure_bind]
    exact ih _ fun z hm=>hz z (aj _ hm)
 have g:=gen scope.names [] h;unfold closureFor;refine Eq.trans ?_ (congrArg (fun (m:Sem (List (Str×Addr)))=>m >>= fun cs=>pure cs) g);rfl
theorem cC (scope:Scope)(env:Env)(y:Str):(relabel scope env).names.lookup y=(scope.names.lookup y).map fun k=>if (k==NameKind.free&&env.scope.kind == .function&&env.kindOf y==some .cell)=true then NameKind.cell else k:=by
 unfold relabel;show jv y (scope.names.map fun (n,k)=>if (k==NameKind.free&&env.scope.kind == .function&&env.kindOf n==some .cell)=true then (n,NameKind.cell) else (n,k))=_
 induction scope.names with
 | nil=>rfl
 | cons z r ih =>
  obtain⟨n,k⟩:=z;rw[ap];by_cases hy:(y==n)=true
  ·have e:y=n:=by simpa using hy
   subst e;by_cases hc:(k==NameKind.free&&env.scope.kind == .function&&env.kindOf y==some .cell)=true
   ·simp only [hc,if_true,je,beq_self_eq_true,jo]
   ·simp only [hc,if_false,je,beq_self_eq_true,jo,ck]
  ·have hy':(y==n)=false:=by simpa using hy
   by_cases hc:(k==NameKind.free&&env.scope.kind == .function&&env.kindOf n==some .cell)=true
   ·simp only [hc,if_true,je,hy']
    exact ih
   ·simp only [hc,if_false,je,hy',ck]
    exact ih
theorem eD {κ:Type}:∀ {l:List (Str×κ)} {y:Str} {k:κ},l.lookup y=some k->(y,k)∈l:=fun h=>gy h
abbrev bZ (X:Cx)(N':List Str)(scope:Scope)(cl:List (Str×Addr))(C:Addr)(s:Shared)(H:Hp)(fp:List Addr):Cx :=
 { X with env:=compEnvC scope cl C X.env,N:=N',s₀:=s,H₀:=H,outer:=X.stack,stack:=X.stack,ex:=fp,fn:=fun _=>false,xe:=fun _ _=>False }
abbrev aAH (cds:List Expr)(env:Env):Sem Bool:=forIn cds true fun c r=>if r=true then do let ok <- isTrue c env (eval c env);pure (ForInStep.yield ok) else pure (ForInStep.yield r)
def PTL (X:Cx)(cds:List Expr)(t:TT):Prop :=
 ∀ (pins:List (Addr×Obj)) (s:Shared) (σ:St) (H:Hp) (Q:Bool->Hp->Prop),Inv X pins σ H s->t σ H Q->wpAny (model X.prog X.w) X.A (aAH cds X.env) (TP X pins σ Q) X.xe s
theorem Fv {X:Cx}:PTL X [] (fun _ H k=>k true H):=fun pins s σ H Q I q=>wpAny_tests_nil ⟨H,I,q⟩
theorem Gp {X:Cx}{cd:Expr}{tc:TT}(h:PT X cd tc):PTL X [cd] tc:=fun pins s σ H Q I q=>wpAny_tests_one (h pins s σ H Q I q)
theorem lT {prog:Program}{w:World}{A:Around}{R:Result->Shared->Prop}{s:Shared}{elt target iter:Expr}{cds:List Expr}{scope:Scope}{pos:Pos}{it acc:Value}{env:Env}(I:Nat->Shared->Prop)
  (turn:∀ n s,I n s->wpAny (model prog w) A (pyNext it) (fun r s₁=>match r with
   | none=>R (.ok .next) s₁
   | some v=>wpAny (model prog w) A (letOwnedTupleGo target it v) (fun _ s₁'=>wpAny (model prog w) A (assign target env v) (fun _ s₂=>wpAny (model prog w) A (aAH cds env) (fun ok s₂' =>
    if ok=true then wpAny (model prog w) A (eval elt env) (fun x s₃ =>
     wpAny (model prog w) A (call (.builtin "list.append") [acc,x]) (fun _ s₄=>∃ m,m<n∧I m s₄) (fun _ _=>False) s₃) (fun _ _=>False) s₂'
    else ∃ m,m<n∧I m s₂') (fun _ _=>False) s₂) (fun _ _=>False) s₁') (fun _ _=>False) s₁) (fun _ _=>False) s)
  (n:Nat) (h:I n s) :
  codeAny (model prog w) A (.compLoop (.ListComp elt [⟨target,iter,cds,0⟩] scope pos) 0 it acc env) R s:=by
 refine codeAny_loop rfl I (fun n s hI=>?_) n h;show wpAny _ A ((compTurn (.ListComp elt [⟨target,iter,cds,0⟩] scope pos) 0 it acc env).onRaise (fun x=>do noteFrame x env;theTreesLotGoes x)) _ _ s;refine wpAny_noted ?_;rw[compTurn_list];refine wpAny_bind (wpAny_standAt (wpAny_bind (wpAny_mono (turn n s hI) (fun r s₁ h₁=>?_) fun _ _ h'=>h'.elim)))
 cases r with
 | none=>exact wpAny_pure h₁
 | some v =>
  refine wpAny_bind (wpAny_mono h₁ (fun _ s₀ h₀=>?_) fun _ _ h'=>h'.elim);refine wpAny_bind (wpAny_mono h₀ (fun _ s₂ h₂=>?_) fun _ _ h'=>h'.elim);refine wpAny_bind ((wpAny_mono h₂ (fun ok s₃ h₃=>?_) fun _ _ h'=>h'.elim))
  cases ok with
  | false=>exact wpAny_pure ⟨rfl,by simpa using h₃⟩
  | true =>
   have h₃':=h₃;simp only [if_true] at h₃';exact wpAny_bind (wpAny_bind (wpAny_mono h₃' (fun x s₄ h₄=>wpAny_bind (wpAny_mono h₄ (fun _ s₅ h₅=>wpAny_pure (wpAny_pure ⟨rfl,h₅⟩)) fun _ _ h'=>h'.elim)) fun _ _ h'=>h'.elim))
theorem kX {prog:Program}{w:World}{A:Around}{R:Result->Shared->Prop}{s:Shared}{elt target iter:Expr}{scope:Scope}{pos:Pos}{it acc:Value}{env:Env}(I:Nat->Shared->Prop)
  (turn:∀ n s,I n s->wpAny (model prog w) A (pyNext it) (fun r s₁=>match r with
   | none=>R (.ok .next) s₁
   | some v=>wpAny (model prog w) A (letOwnedTupleGo target it v) (fun _ s₁'=>wpAny (model prog w) A (assign target env v) (fun _ s₂=>wpAny (model prog w) A (eval elt env) (fun x s₃ =>
    wpAny (model prog w) A (call (.builtin "list.append") [acc,x]) (fun _ s₄=>∃ m,m<n∧I m s₄) (fun _ _=>False) s₃)
    (fun _ _=>False) s₂) (fun _ _=>False) s₁') (fun _ _=>False) s₁) (fun _ _=>False) s)
  (n:Nat) (h:I n s) :
  codeAny (model prog w) A (.compLoop (.ListComp elt [⟨target,iter,[],0⟩] scope pos) 0 it acc env) R s:=by
 refine codeAny_loop rfl I (fun n s hI=>?_) n h;show wpAny _ _ ((compTurn (.ListComp elt [⟨target,iter,[],0⟩] scope pos) 0 it acc env).onRaise (fun x=>do noteFrame x env;theTreesLotGoes x)) _ _ s;refine wpAny_noted ?_;rw[compTurn_list1];refine wpAny_bind (wpAny_standAt (wpAny_bind (wpAny_mono (turn n s hI) (fun r s₁ h₁=>?_) fun _ _ h'=>h'.elim)))
 cases r with
 | none=>exact wpAny_pure h₁
 | some v =>
  refine wpAny_bind (wpAny_mono h₁ (fun _ s₁' h₁'=>?_) fun _ _ h'=>h'.elim);exact wpAny_bind (wpAny_mono h₁' (fun _ s₂ h₂=>wpAny_bind (wpAny_bind (wpAny_mono h₂ (fun x s₃ h₃=>wpAny_bind (wpAny_mono h₃
   (fun _ s₄ h₄=>wpAny_pure (wpAny_pure ⟨rfl,h₄⟩)) fun _ _ h'=>h'.elim)) fun _ _ h'=>h'.elim))) fun _ _ h'=>h'.elim)
def gR (te:TE)(σ:St)(Q:VK)(J:It)(H1:Hp):Prop:=∀ D,H1 D=none->∃ W:Nat->Nat->List V->Hp->Prop,(∃ m,W 0 m [] (upd H1 D (.lst [])))∧∀ i m ys H2,W i m ys H2 ->
 (J.stop i H2∧Q (.ref D) H2)∨(J.go i H2∧ys.length<sizeLine∧∃ N:V->Hp->Prop,(∀ v H',N v H'->H' D=some (.lst ys)∧∃ m',m'<m∧W (i+1) m' (ys++[v]) (upd H' D (.lst (ys++[v])))) ∧
  ∀ y H',J.yld i H2 y H'->te (some y::σ) H' N)
def Vk (wi:TI)(te:TE):TE:=fun σ H Q=>wi σ H (gR te σ Q)
def eQ (tc:TT)(te:TE)(σ:St)(Q:VK)(J:It)(H1:Hp):Prop:=∀ D,H1 D=none->∃ W:Nat->Nat->List V->Hp->Prop,(∃ m,W 0 m [] (upd H1 D (.lst [])))∧∀ i m ys H2,W i m ys H2 ->
 (J.stop i H2∧Q (.ref D) H2)∨(J.go i H2∧ys.length<sizeLine∧∃ N:V->Hp->Prop,(∀ v H',N v H'->H' D=some (.lst ys)∧∃ m',m'<m∧W (i+1) m' (ys++[v]) (upd H' D (.lst (ys++[v])))) ∧
  ∃ Nn:Hp->Prop,(∀ H',Nn H'->∃ m',m'<m∧W (i+1) m' ys H') ∧
  ∀ y H',J.yld i H2 y H'->tc (some y::σ) H' fun b H''=>if b=true then te (some y::σ) H'' N else Nn H'')
def Qt (wi:TI)(tc:TT)(te:TE):TE:=fun σ H Q=>wi σ H (eQ tc te σ Q)
section
variable {X:Cx}{N':List Str}{scope:Scope}{x:Str}{px:Pos}{elt iter:Expr}{cds:List Expr}{pos:Pos}{te:TE}{tc:TT}{wi:TI}
theorem uR (S:bQ X.N N' X.env.scope scope x)(hc:X.calm=true)(ht:∀ cl C s H fp,PTL (bZ X N' scope cl C s H fp) cds tc)(he:∀ cl C s H fp,PE (bZ X N' scope cl C s H fp) elt te)
  {pins:List (Addr×Obj)} {σ:St} {H:Hp} {s:Shared} {Q:VK} {E:Value->Shared->Prop} {RR:Value->Addr->Result->Shared->Prop} {it:Addr} {fp:List Addr} {tn:Nat->Heap->Prop} {J:It}
  (I:Inv X pins σ H s) (T:vB X.prog X.w X.K (.Name x px) J fp it tn) (st:tn 0 s.heap) (f2:∀ b∈fp,mR X pins H b)
  (hw:eQ tc te σ Q J H)
  (hRR:∀ D C s' H',Inv X pins σ H' s'->(∃ m,s'.heap.Ns C m)->C≠X.env.locals->(∀ y c,X.env.cells.lookup y=some c->c≠C)->H' C=none->X.s₀.heap.objs.size<=C->(∀ p∈X.pn++pins,p.1≠C)->Q (.ref D) H'->RR (.ref D) C (.ok .next) s') :
  ∃ cl,closureFor scope X.env=pure cl∧wpAny (model X.prog X.w) X.A (newList []) (fun acc s₃=>wpAny (model X.prog X.w) X.A (newFunctionEnv scope X.env.globals cl [] X.env.qual none .none (some X.env)) (fun cenv s₄ =>
   codeAny (model X.prog X.w) X.A (.compStart (.ListComp elt [⟨.Name x px,iter,cds,0⟩] scope pos) 0 (.ref it) acc { cenv with scope:=relabel scope X.env }) (RR acc cenv.locals) s₄) E s₃) E s:=by
 have hfree:∀ z∈scope.names,z.2 = .free->∃ c,X.env.cells.lookup z.1=some c:=fun z hz hk=>by
  rcases S.ok z hz hk with q | q
  ·exact I.ok.has z.1 (.inl q)
  ·exact I.ok.has z.1 (.inr q)
 refine⟨_,iH hfree,?_⟩;have clS:∀ y c,(cZ X.env.cells scope.names []).lookup y=some c->X.env.cells.lookup y=some c:=fun y c=>mV scope.names [] hfree fun q=>by cases q
 generalize hcl:cZ X.env.cells scope.names []=cl at clS;have clH:∀ y,scope.names.lookup y=some .free->∃ c,cl.lookup y=some c:=fun y hy=>by
  rw[<- hcl];exact uJ scope.names [] (eD hy)
 refine wpAny_newObj_type (wpAny_newFunctionEnv S.cell (by intro y hy;simp at hy) (fun h₁ hns₁ hsb₁=>?_) S.kind);have I3:Inv X pins σ (upd H s.heap.objs.size (.lst [])) { s with heap:=s.heap.push { cls:=.type "list",data:=.seq ([]:List Value).toArray } }:=I.lnew (t':=s.toks) .nil (b6 _)
 obtain⟨W,⟨m0,w0⟩,turn⟩:=hw s.heap.objs.size I.fresh
 dsimp only at hns₁ hsb₁ ⊢
 generalize hs3:({ s with heap:=s.heap.push { cls:=.type "list",data:=.seq ([]:List Value).toArray } }:Shared)=s3 at I3
 have hh3:s3.heap=s.heap.push { cls:=.type "list",data:=.seq ([]:List Value).toArray }:=by rw[<- hs3]
 have hsz3:s3.heap.objs.size=s.heap.objs.size+1:=by rw[hh3,Heap.size_push]
 rw[<- hh3] at hns₁ hsb₁ ⊢;have old:∀ b o,s3.heap.get? b=some o->h₁.get? b=some o:=fun b o e=>hsb₁.extBut b o (by have:=Heap.lt_size e;exact bb this) (Heap.get?_push_of_some _ e)
 have old0:∀ b o,s.heap.get? b=some o->h₁.get? b=some o:=fun b o e=>old b o (by rw[hh3];exact Heap.get?_push_of_some _ e)
 have CneL:s3.heap.objs.size≠X.env.locals:=g0 I3.lt;have CneC:∀ y c,X.env.cells.lookup y=some c->c≠s3.heap.objs.size:=fun y c e z=>by
  obtain⟨v,q⟩:=I3.cell y c e
  have:=q.lt
  rw[z] at this;exact absurd this (ej _)
 have CneP:∀ p∈X.pn++pins,p.1≠s3.heap.objs.size:=fun p hp z=>by
  have:=Heap.lt_size (I3.pin p hp).1
  rw[z] at this;exact absurd this (ej _)
 have CfreeH:∀ b o,s3.heap.get? b=some o->b<s3.heap.objs.size:=fun b o e=>by have:=Heap.lt_size e;exact this
 have fpLt:∀ b∈fp,b<s3.heap.objs.size:=fun b hb=>by
  obtain⟨o,e,_⟩:=T.obj 0 s.heap st b hb;rw[hsz3];exact dz (Heap.lt_size e)
 have fpD:∀ b∈fp,b≠s.heap.objs.size:=fun b hb=>by
  obtain⟨o,e,_⟩:=T.obj 0 s.heap st b hb;exact bb (Heap.lt_size e)
 have ok':(bZ X N' scope cl s3.heap.objs.size s3 (upd H s.heap.objs.size (.lst [])) fp).Ok:=by
  refine⟨I3.ok.mod,?_,I3.ok.glob,I3.ok.blt,af _,fun y z c h1 h2=>I3.ok.inj y z c (clS y c h1) (clS z c h2),fun y hy=>?_,fun y c hf=>(by cases hf),I3.ok.hd,I3.ok.frames,.inl rfl,fun b hb=>⟨bb (fpLt b hb),fun y c e=>(f2 b hb).2.2.2.2.1 y c (clS y c e)⟩,
   fun b o e=>I3.bs b o e,av I3.ok.bsz I3.sz,fun b o e hb=>?_,fun b hb z=>?_,I3.stack,I3.stkFree⟩
  ·show (relabel scope X.env).kind = .function
   exact S.kind
  ·have hy':(relabel scope X.env).names.lookup y=some .cell∨(relabel scope X.env).names.lookup y=some .free:=hy
   rw[cC] at hy'
   cases q:scope.names.lookup y with
   | none=>rw[q] at hy';rcases hy' with z | z <;> cases z
   | some k =>
    have hm:=eD q
    cases k with
    | free=>exact clH y q
    | cell=>exact absurd rfl (S.cell _ hm)
    | «local» => rw[q] at hy';rcases hy' with z | z <;> simp at z
    | globalExplicit=>rw[q] at hy';rcases hy' with z | z <;> simp at z
    | globalImplicit=>rw[q] at hy';rcases hy' with z | z <;> simp at z
  ·rcases (f2 b hb).2.2.2.1 with z | z
   ·exact I.ok.noex b o e z
   ·exact absurd (bx (Heap.lt_size e) (av I.ok.bsz z)) (ej _)
  ·rcases ar.mp (I3.stkSub b z) with q | q
   ·exact (f2 b hb).2.1 q
   ·exact (f2 b hb).2.2.1 q
 have fpOk':∀ {H':Hp},(∀ b∈fp,H' b=none)->∀ b∈fp,mR (bZ X N' scope cl s3.heap.objs.size s3 (upd H s.heap.objs.size (.lst [])) fp) pins H' b:=fun hn b hb =>
  ⟨hn b hb,bb (fpLt b hb),fun z=>by
   rcases ar.mp (I3.stkSub b z) with q | q
   ·exact (f2 b hb).2.1 q
   ·exact (f2 b hb).2.2.1 q,.inl hb,fun y c e=>(f2 b hb).2.2.2.2.1 y c (clS y c e),(f2 b hb).2.2.2.2.2⟩
 have I4:Inv (bZ X N' scope cl s3.heap.objs.size s3 (upd H s.heap.objs.size (.lst [])) fp) pins (none::σ) (upd H s.heap.objs.size (.lst [])) { s3 with heap:=h₁,toks:=s3.toks+([]:List (Str×Value)).length }:=by
  refine⟨ok',rfl,I3.bare,Un.kept old,⟨_,hns₁,fun i y v e1 e2 vis=>?_⟩,fun y c e=>?_,?_,fun y c e=>I3.freeC y c (clS y c e),fun p hp=>?_,I3.hok.kept old,?_⟩
  ·cases i with
   | zero=>cases e2
   | succ i =>
    have e2':σ[i]?=some (some v):=by simpa using e2
    have hi:i<X.N.length:=by rw[<- I3.len];exact (aw.mp e2').1
    have vis':(relabel scope X.env).names.lookup y=some .local∨(relabel scope X.env).names.lookup y=some .cell∨(relabel scope X.env).names.lookup y=some .free:=vis;have e1':N'[i+1]?=some y:=e1;rcases S.sub i hi with q | q
    ·rw[e1'] at q
     have hy:X.N[i]?=some y:=q.symm;have hmem:y∈N'.tail:=by
      rw[ph];exact⟨i,by rw[mz];exact e1'⟩
     have hfr:scope.names.lookup y=some .free:=by
      rw[cC] at vis'
      cases q2:scope.names.lookup y with
      | none=>rw[q2] at vis';rcases vis' with z | z | z <;> cases z
      | some k =>
       cases k with
       | free=>rfl
       | cell=>exact absurd rfl (S.cell _ (eD q2))
       | «local» => exact absurd q2 (S.nol y hmem)
       | globalExplicit=>rw[q2] at vis';rcases vis' with z | z | z <;> simp at z
       | globalImplicit=>rw[q2] at vis';rcases vis' with z | z | z <;> simp at z
     have hok:=S.ok (y,.free) (eD hfr) rfl;obtain⟨m,hn,hl⟩:=I3.loc;have visX:Vis X.env.scope y:=by
      rcases hok with z | z
      ·exact .inr (.inl z)
      ·exact .inr (.inr z)
     obtain⟨u,r,l⟩:=hl i y v hy e2' visX;refine⟨u,r,.inr ⟨?_,?_⟩⟩
     ·show (relabel scope X.env).names.lookup y=some .cell∨(relabel scope X.env).names.lookup y=some .free
      rw[cC,hfr,jo];by_cases hcnd:(NameKind.free==NameKind.free&&X.env.scope.kind == .function&&X.env.kindOf y==some .cell)=true
      ·left
       rw[if_pos hcnd]
      ·right
       rw[if_neg hcnd]
     ·rcases l with ⟨k,_⟩ | ⟨k,c,e,z⟩
      ·have k':X.env.scope.names.lookup y=some .local:=k
       have hok':X.env.scope.names.lookup y=some .cell∨X.env.scope.names.lookup y=some .free:=hok;rw[k'] at hok';rcases hok' with z | z <;> cases z
      ·obtain⟨c',e'⟩:=clH y hfr
       have e3:=clS y c' e';rw[e] at e3;cases e3;obtain⟨o,ho,hd⟩:=z;exact⟨c,e',o,old c o ho,hd⟩
    ·rw[e1'] at q
     have q:scope.names.lookup y=none:=a8 q;rw[cC,q] at vis';rcases vis' with z | z | z <;> cases z
  ·obtain⟨v,o,ho,hd⟩:=I3.cell y c (clS y c e)
   exact⟨v,o,old c o ho,hd⟩
  ·show upd H s.heap.objs.size (.lst []) s3.heap.objs.size=none
   exact I3.hok.fresh (af _)
  ·obtain⟨e,n,ne,nf,d⟩:=I3.pin p hp
   refine⟨old _ _ e,n,CneP p hp,fun z=>?_,d⟩;rcases ar.mp (I3.stkSub p.1 z) with q | q
   ·exact ne q
   ·exact nf q
  ·show (none::σ).length=N'.length
   rw[S.len,aq,I3.len]
 have st4:tn 0 h₁:=T.keep 0 s.heap h₁ st fun b _ o e=>old0 b o e
 have loop:∀ s₄:Shared,s₄ = { s3 with heap:=h₁,toks:=s3.toks+([]:List (Str×Value)).length } ->
   codeAny (model X.prog X.w) X.A (.compLoop (.ListComp elt [⟨.Name x px,iter,cds,0⟩] scope pos) 0 (.ref it) (.ref s.heap.objs.size) (compEnvC scope cl s3.heap.objs.size X.env)) (RR (.ref s.heap.objs.size) s3.heap.objs.size) s₄:=by
  rintro s₄ rfl;refine lT (fun n s'=>∃ i v0 ys H',Inv (bZ X N' scope cl s3.heap.objs.size s3 (upd H s.heap.objs.size (.lst [])) fp) pins (v0::σ) H' s'∧tn i s'.heap∧(∀ b∈fp,H' b=none)∧W i n ys H') ?_ m0
   ⟨0,none,[],_,I4,st4,fun b hb=>by rw[aM (fpD b hb)];exact (f2 b hb).1,w0⟩
  rintro n s5 ⟨i,v0,ys,H5,I5,st5,fr5,w5⟩;rcases turn i n ys H5 w5 with ⟨stop,qn⟩ | ⟨go,hz,N,hN,Nn,hNn,step⟩
  ·refine thn (T.done (bZ X N' scope cl s3.heap.objs.size s3 (upd H s.heap.objs.size (.lst [])) fp) rfl rfl rfl hc i pins s5 (v0::σ) H5 (fun _ _=>False) I5 (fpOk' fr5) st5 stop) fun r s6 ⟨hr,I6⟩=>?_
   subst hr;have hch:∀ b∈fp,(b∈X.ex∨X.s₀.heap.objs.size<=b)∧b≠X.env.locals∧(∀ x c,X.env.cells.lookup x=some c->c≠b)∧∀ p∈X.pn++pins,p.1≠b:=fun b hb =>
    ⟨(f2 b hb).2.2.2.1,(f2 b hb).2.1,(f2 b hb).2.2.2.2.1,(f2 b hb).2.2.2.2.2⟩
   have I7:Inv X pins σ H5 s6:=I3.call' (ch:=fp) I6.os I6.base I6.hok I6.bare hch;obtain⟨m,hm,_⟩:=I6.loc;exact hRR s.heap.objs.size s3.heap.objs.size s6 H5 I7 ⟨m,hm⟩ CneL CneC I6.free (av I3.sz (af _)) CneP qn
  ·refine thn (T.item (bZ X N' scope cl s3.heap.objs.size s3 (upd H s.heap.objs.size (.lst [])) fp) rfl rfl rfl hc i pins s5 (v0::σ) H5 (fun _ _=>False) I5 (fpOk' fr5) st5 go) fun r s6 ⟨u,hr,h6⟩=>?_
   subst hr;refine thn h6 fun _ s7 ⟨y,H7,I7,r7,y7,st7,fr7⟩=>?_
   have I7':=I7.pinned (fpOk' fr7) (T.obj _ _ st7);refine wpAny_assign_Name (tR (i:=0) (v:=y) I7' S.nd S.hd (.inl (lookup_relabel_local S.var)) r7 (fun s8 I8=>?_) (.inr (lookup_relabel_local S.var)));have I8':Inv (bZ X N' scope cl s3.heap.objs.size s3 (upd H s.heap.objs.size (.lst [])) fp) (pins++mW fp s7.heap) (some y::σ) H7 s8:=I8;refine thn (ht cl s3.heap.objs.size s3 (upd H s.heap.objs.size (.lst [])) fp _ s8 (some y::σ) H7 (fun b H''=>if b=true then te (some y::σ) H'' N else Nn H'') I8' (step y H7 y7)) fun okb s8 ⟨H8,I8,q8⟩=>?_
   cases okb with
   | false =>
    have q8':Nn H8:=by simpa using q8
    obtain⟨m',hm,w9⟩:=hNn H8 q8';refine⟨m',hm,i+1,some y,ys,_,I8.unpinned,T.keep _ _ _ st7 fun b hb o e=>(I8.pin (b,o) (br _ (br _ (eB hb e)))).1,fun b hb=>?_,w9⟩;obtain⟨o,e,d⟩:=T.obj _ _ st7 b hb;exact (I8.pin (b,o) (br _ (br _ (eB hb e)))).2.1
   | true =>
    refine thn (he cl s3.heap.objs.size s3 (upd H s.heap.objs.size (.lst [])) fp _ s8 (some y::σ) H8 N I8 (by simpa using q8)) fun w s9 ⟨v,H9,I9,r9,q9⟩=>?_
    obtain⟨hD9,m',hm,w9⟩:=hN v H9 q9;refine thn (gN _ s9 (some y::σ) H9 (.ref s.heap.objs.size) [v] (.ref s.heap.objs.size) [w] (fun z H10=>z = .non∧H10=upd H9 s.heap.objs.size (.lst (ys++[v]))) I9 rfl (.cons r9 .nil) ⟨s.heap.objs.size,ys,v,rfl,rfl,hD9,hz,rfl,rfl⟩) fun _ s10 ⟨z,H10,I10,_,ez,e10⟩=>?_
    subst e10;refine⟨m',hm,i+1,some y,ys++[v],_,I10.unpinned,T.keep _ _ _ st7 fun b hb o e=>(I10.pin (b,o) (br _ (br _ (eB hb e)))).1,fun b hb=>?_,w9⟩;obtain⟨o,e,d⟩:=T.obj _ _ st7 b hb;exact (I10.pin (b,o) (br _ (br _ (eB hb e)))).2.1
 exact codeAny_compStart_list (loop _ (by rw[<- hs3])) (T.self X.A 0 _ _ _ st4 (loop _ (by rw[<- hs3])))
theorem gR.toF {te:TE}{σ:St}{Q:VK}{J:It}{H:Hp}(hw:gR te σ Q J H):eQ (fun _ H k=>k true H) te σ Q J H:=fun D hD=>by
 obtain⟨W,h0,hW⟩:=hw D hD;refine⟨W,h0,fun i m ys H2 hw2=>?_⟩;rcases hW i m ys H2 hw2 with g | ⟨g1,g2,N,g3,g4⟩
 ·exact .inl g
 ·exact .inr ⟨g1,g2,N,g3,fun _=>False,fun _ z=>z.elim,fun y H' hy=>vD (g4 y H' hy)⟩
theorem Be {at':St->VK->It->Hp->Prop}(S:bQ X.N N' X.env.scope scope x)(hc:X.calm=true)(hi:PI X (.Name x px) iter wi)(ht:∀ cl C s H fp,PTL (bZ X N' scope cl C s H fp) cds tc)(he:∀ cl C s H fp,PE (bZ X N' scope cl C s H fp) elt te)(cv:∀ σ Q J H,at' σ Q J H->eQ tc te σ Q J H)
  (hs:∀ x,foldedSetIterable iter X.env x=pure x:=by intro _;rfl):PE X (.ListComp elt [⟨.Name x px,iter,cds,0⟩] scope pos) (fun σ H Q=>wi σ H (at' σ Q)):=by
 intro pins s σ H Q I h;rw[eval_ListComp];have hfree:∀ z∈scope.names,z.2 = .free->∃ c,X.env.cells.lookup z.1=some c:=fun z hz hk=>by
  rcases S.ok z hz hk with q | q
  ·exact I.ok.has z.1 (.inl q)
  ·exact I.ok.has z.1 (.inr q)
 refine wpAny_comprehension_free (use:=none) rfl hs (iH hfree) S.kind S.names (thn (hi pins s σ H _ I h) fun xv s1 h1=>thn h1 fun itv s2 h2=>?_);obtain⟨it,fp,tn,J,H2,e,I2,T,st2,f2,hw⟩:=h2;subst e;obtain⟨cl,hcl,hrun⟩:=uR (tc:=tc) (cds:=cds) (elt:=elt) (iter:=iter) (pos:=pos) (px:=px) (E:=X.xe) (RR:=fun acc C=>compPost (model X.prog X.w) X.A X.xe none (EP X pins σ Q) acc C) S hc ht he I2 T st2 f2 (cv _ _ _ _ hw) (fun D C s' H' I' ⟨m,hm⟩ n1 n2 n3 n4 n5 q =>
  ⟨m,hm,fun h' hsb=>⟨.ref D,H',I'.turned (it:=C) (t':=s'.toks) (fun b o hb e=>(hsb.2 b hb).trans e) n3 n1 (.inr n4) n2 n5,rfl,q⟩⟩)
 have ecl:(pure (cZ X.env.cells scope.names []):Sem (List (Str×Addr)))=pure cl:=(iH hfree).symm.trans hcl;have ecl':cZ X.env.cells scope.names []=cl:=by
  injection ecl
 rw[ecl'];exact hrun
theorem qA {at':St->VK->It->Hp->Prop}{i:Nat}{y:Str}{py spos:Pos}(S:bQ X.N N' X.env.scope scope x)(hc:X.calm=true)(hi:PI X (.Name x px) iter wi)(ht:∀ cl C s H fp,PTL (bZ X N' scope cl C s H fp) cds tc)(he:∀ cl C s H fp,PE (bZ X N' scope cl C s H fp) elt te)(cv:∀ σ Q J H,at' σ Q J H->eQ tc te σ Q J H)
  (hN:X.N.Nodup) (hy:X.N[i]?=some y) (hyl:X.env.scope.names.lookup y=some .local)
  (hsw:swapsWith (.ListComp elt [⟨.Name x px,iter,cds,0⟩] scope pos) (some (.Name y py)) spos.line X.env=pure true:=by rfl)
  (hs:∀ x,foldedSetIterable iter X.env x=pure x:=by intro _;rfl):PS X (.Assign [.Name y py] (.ListComp elt [⟨.Name x px,iter,cds,0⟩] scope pos) spos) (Mc (fun σ H Q=>wi σ H (at' σ Q)) (xE i)):=by
 intro pins s σ H D0 I h;have hfree:∀ z∈scope.names,z.2 = .free->∃ c,X.env.cells.lookup z.1=some c:=fun z hz hk=>by
  rcases S.ok z hz hk with q | q
  ·exact I.ok.has z.1 (.inl q)
  ·exact I.ok.has z.1 (.inr q)
 rw[exec_Assign_Name_used _ _ _ _ hsw];refine wpAny_bind (wpAny_standAt (wpAny_bind ?_));show wpAny _ X.A (do let _ <- comprehension (.ListComp elt [⟨.Name x px,iter,cds,0⟩] scope pos) scope X.env _ (newList []) false (eval iter X.env) (some (assign (.Name y py) X.env))) _ _ s;refine wpAny_bind (wpAny_mono (wpAny_comprehension_free (use:=some (assign (.Name y py) X.env)) (Q:=fun _ s'=>SP X pins D0 .next s') rfl hs (iH hfree) S.kind S.names
  (thn (hi pins s σ H _ I h) fun xv s1 h1=>thn h1 fun itv s2 h2=>?_)) (fun _ s' hq=>wpAny_pure (wpAny_pure hq)) fun _ _ e=>e)
 obtain⟨it,fp,tn,J,H2,e,I2,T,st2,f2,hw⟩:=h2;subst e;obtain⟨cl,hcl,hrun⟩:=uR (tc:=tc) (cds:=cds) (elt:=elt) (iter:=iter) (pos:=pos) (px:=px) (E:=X.xe) (Q:=fun x H1=>xE i x σ H1 D0.nx) (RR:=fun acc C=>compPost (model X.prog X.w) X.A X.xe (some (assign (.Name y py) X.env)) (fun _ s'=>SP X pins D0 .next s') acc C) S hc ht he I2 T st2 f2 (cv _ _ _ _ hw) (fun D C s' H' I' ⟨m,hm⟩ n1 n2 n3 n4 n5 q=>by
  show wpAny _ X.A (assign (.Name y py) X.env (.ref D)) _ _ _;refine wpAny_assign_Name (wQ (i:=i) (v:=.ref D) I' hN hy (.inl hyl) rfl (fun s'' I'' ⟨a,hsa,hwa⟩=>?_) (.inr hyl));have haC:C≠a:=by
   rcases hwa with z | z
   ·rw[z];exact n1
   ·intro z2
    exact n2 y a z z2.symm
  refine⟨m,hm.sameBut hsa haC,fun h' hsb=>?_⟩;exact⟨_,H',I''.turned (it:=C) (t':=s''.toks) (fun b o hb e=>(hsb.2 b hb).trans e) n3 n1 (.inr n4) n2 n5,q⟩)
 have ecl:(pure (cZ X.env.cells scope.names []):Sem (List (Str×Addr)))=pure cl:=(iH hfree).symm.trans hcl;have ecl':cZ X.env.cells scope.names []=cl:=by
  injection ecl
 rw[ecl'];exact hrun
theorem cV (S:bQ X.N N' X.env.scope scope x)(hc:X.calm=true)(hi:PI X (.Name x px) iter wi)(he:∀ cl C s H fp,PE (bZ X N' scope cl C s H fp) elt te)
  (hs:∀ x,foldedSetIterable iter X.env x=pure x:=by intro _;rfl):PE X (.ListComp elt [⟨.Name x px,iter,[],0⟩] scope pos) (Vk wi te) :=
 Be (at':=fun σ Q=>gR te σ Q) S hc hi (fun _ _ _ _ _=>Fv) he (fun _ _ _ _ h=>h.toF) hs
theorem Ey {i:Nat}{y:Str}{py spos:Pos}(S:bQ X.N N' X.env.scope scope x)(hc:X.calm=true)(hi:PI X (.Name x px) iter wi)(he:∀ cl C s H fp,PE (bZ X N' scope cl C s H fp) elt te)
  (hN:X.N.Nodup) (hy:X.N[i]?=some y) (hyl:X.env.scope.names.lookup y=some .local)
  (hsw:swapsWith (.ListComp elt [⟨.Name x px,iter,[],0⟩] scope pos) (some (.Name y py)) spos.line X.env=pure true:=by rfl)
  (hs:∀ x,foldedSetIterable iter X.env x=pure x:=by intro _;rfl):PS X (.Assign [.Name y py] (.ListComp elt [⟨.Name x px,iter,[],0⟩] scope pos) spos) (Mc (Vk wi te) (xE i)) :=
 qA (at':=fun σ Q=>gR te σ Q) S hc hi (fun _ _ _ _ _=>Fv) he (fun _ _ _ _ h=>h.toF) hN hy hyl hsw hs
end
structure Cal (P:Program)(w:World)(K:ae)(mg:Str->Option Value)(base:Heap)(CX:CXT)(x:Str)(k:Nat)(ps:List Str)(sp:Sp):Prop where
 ex:∃ (f:Addr) (fd:FuncData),bW P w K mg base CX k f fd ps sp∧mg x=some (.ref f)∧ff K (.ref f)=true∧kR K fd ps []
section
variable {X:Cx}
theorem aJ {CX:CXT}{x:Str}{j k:Nat}{ps:List Str}{sp:Sp}{E:XK}{e:Expr}{es:List Expr}{t:TA}{p pos:Pos}(c:Cal X.prog X.w X.K X.mg X.base CX x j ps sp)(hr:fY k X.A)(hx:kW CX X E)(ha:PA X (e::es) t)
  (hjk:j<=k:=by decide) (hg:Gl X x:=by rfl) (hdb:(x==("__debug__" : Str))=false:=by decide) (he:starEach (e::es) X.env=(false,eval e X.env)::starEach es X.env:=by rfl) (hpl:(backTo pos (starEach es X.env)).any (·.1)=false:=by rfl) :
  PE X (.Call (.Name x p) (e::es) [] pos) (Vi sp [] E t):=by
 obtain⟨f,fd,F,hm,hk,hb⟩:=c.ex;exact Rp F (hr.mono hjk) hg hm hk hb .nil hx ha hdb he hpl
theorem bT (l:List Nat){x:Str}{j pos}(h:x=tx l):PE X (.Constant (.str x) j pos) (tC (T l)):=by
 subst h;exact Xs
theorem dP:eA X (.builtin "len") (fun xs H Q=>∃ (l:List Nat),xs=[T l]∧l.length<=sizeLine∧Q (.int (l.length:Nat)) H):=by
 intro pins s σ H xs us Q I r h;obtain⟨l,e,hz,q⟩:=h;exact xS pins s σ H xs us Q I r ⟨tx l,e,by rw[fD];exact hz,by rw[fD];exact q⟩
theorem Kf:IxR X (fun x y H Q=>∃ (l:List Nat),x=T l∧∃ (i:Int),y = .int i∧l.length<=sizeLine∧∃ c,atI l i=some c∧Q (T [c]) H):=by
 intro value slice pins s σ H x y v u Q I rx ry h hs;obtain⟨l,e1,i,e2,hz,c,hc,q⟩:=h;exact Xh value slice pins s σ H x y v u Q I rx ry ⟨tx l,i,c,e1,e2,by rw[fD];exact hz,by rw[cW];exact hc,q⟩ hs
theorem qG:eA X (.builtin "isinstance") (fun xs H Q=>∃ (x:V) (c:String) (t:Value) (b:Bool),xs=[x,.ty c]∧oY X.K H x t∧jw X.K t (.type c)=some b∧Q (.bl b) H):=by
 intro pins s σ H xs us Q I r h;obtain⟨x,c,t,b,rfl,ty,e,q⟩:=h;obtain⟨u,w',rfl,ru,rw'⟩:=Uq r;cases (show w'=Value.type c from rw');exact Jt I ru ty e fun tk=>⟨.bl b,H,I.tok tk,rfl,q⟩
theorem Pf {K:ae}(T:String):jw K (.type T) (.type T)=some true:=by
 unfold jw;rw[if_pos (by simp)]
theorem yV {K:ae}:jw K (.type "int") (.type "bool")=some false:=by
 unfold jw;rw[if_neg (by decide)];rfl
theorem iB:OpR X (binaryOp .Add) (fun x y H Q=>∃ (l b:Addr) (xs zs:List V),x = .ref l∧y = .ref b∧SqL X.K H l xs∧SqL X.K H b zs∧xs.length+zs.length<=sizeLine∧∀ p,H p=none->Q (.ref p) (upd H p (.lst (xs++zs)))):=by
 intro pins s σ H x y v u Q I rx ry h;obtain⟨l,b,xs,zs,rfl,rfl,hH,hB,hz,q⟩:=h;cases rx;cases ry;obtain⟨its,r,⟨⟨cls,dd,data,sl⟩,n,ho,hc,hdd,hd⟩,_⟩:=I.list hH;obtain⟨its2,r2,⟨⟨cls2,dd2,data2,sl2⟩,n2,ho2,hc2,hdd2,hd2⟩,_⟩:=I.list hB;simp only at hc hd hc2 hd2;subst hc hd hc2 hd2;have e:its.toArray++its2.toArray=(its++its2).toArray:=by simp
 refine concat_meets ⟨_,ho,rfl⟩ ⟨_,ho2,rfl⟩ noFill_list_add seq_list_add PySem.F.slot_list_add PySem.F.entry_list_add (PySem.F.args_list_add_2 _ _) (list_addW l b its.toArray its2.toArray n n2 dd dd2 sl sl2 (by rw[az,az,<- r.length,<- r2.length];exact hz)) ⟨ho,ho2,?_⟩;rw[e];exact⟨.ref _,_,I.lnew (t':=s.toks) (r.append r2) (by rw[ak];exact hz),rfl,q _ I.fresh⟩
theorem hU (ls:List (List Nat)):(ls.map T).all iM=true:=by
 rw[List.all_map,ft];intro l _;rfl
theorem Wa {ls ms:List (List Nat)}{us ws:List Value}(r:bV (ls.map T) us)(r':bV (ms.map T) ws){A:Around}{s:Shared}{j:Nat}{u w:Value}(hu:us[j]?=some u)(hw:ws[j]?=some w):SeqAt.EqAt A s u w (decide (ls[j]?=ms[j]?)):=by
 have h1:j<ls.length:=by have:=r.length;rw[aR] at this;rw[this];exact (aw.mp hu).1
 have h2:j<ms.length:=by have:=r'.length;rw[aR] at this;rw[this];exact (aw.mp hw).1
 obtain⟨u',e1,q1⟩:=r.get (i:=j) (x:=T ls[j]) (by rw[ah,aa h1];rfl);obtain⟨w',e2,q2⟩:=r'.get (i:=j) (x:=T ms[j]) (by rw[ah,aa h2];rfl);rw[hu] at e1;cases e1;rw[hw] at e2;cases e2;have e:=Pg (A:=A) (s:=s) q1 q2 rfl rfl;have ee:eqV (T ls[j]) (T ms[j])=decide (ls[j]?=ms[j]?):=by
  show (tx ls[j]==tx ms[j])=_;rw[c9,beq_iff_eq,decide_eq_true_iff,aa h1,aa h2];exact⟨fun h=>by rw[eX h],fun h=>by rw[a8 h]⟩
 rw[ee] at e;exact e
theorem zV {ls ms:List (List Nat)}(h:ls.length=ms.length):(cp ls.length).all (fun j=>decide (ls[j]?=ms[j]?))=decide (ls=ms):=by
 rw[c9,ft,decide_eq_true_iff];constructor
 ·intro g
  apply fe;intro i;by_cases hi:i<ls.length
  ·exact of_decide_eq_true (g i (cr.mpr hi))
  ·rw[bn (by omega),bn (by omega)]
 ·intro g j _
  rw[g];exact decide_eq_true rfl
theorem Lz (hu:X.A.units<cLine):OpR X (compareOp .Eq) (fun x y H Q=>∃ (p b:Addr) (ls ms:List (List Nat)),x = .ref p∧y = .ref b∧SqL X.K H p (ls.map T)∧SqL X.K H b (ms.map T)∧Q (.bl (decide (ls=ms))) H):=by
 intro pins s σ H x y v u Q I rx ry h;obtain⟨p,b,ls,ms,rfl,rfl,h1,h2,q⟩:=h;cases rx;cases ry;obtain⟨its,r,pl,_⟩:=I.list h1;obtain⟨its2,r2,pl2,_⟩:=I.list h2;have l1:=r.length;have l2:=r2.length;rw[aR] at l1 l2;by_cases hl:ls.length=ms.length
 ·refine SeqAt.eq_listAt (e:=fun j=>decide (ls[j]?=ms[j]?)) pl.isList pl2.isList (by rw[az,az];omega) hu (fun j g1 g2=>Wa r r2 (by simp) (by simp)) ?_
  rw[az,<- l1,zV hl];exact⟨.bl _,H,I,rfl,q⟩
 ·refine SeqAt.eq_list_lengthsAt pl.isList pl2.isList (by rw[az,az,bne_iff_ne];omega) hu ?_
  have e:decide (ls=ms)=false:=decide_eq_false fun z=>hl (by rw[z])
  rw[e] at q;exact⟨.bl _,H,I,rfl,q⟩
end
structure Fly (P:Program)(w:World)(outer:List Env)(H:Hp)(s:Shared)(a:Addr)(cls:Value)(H':Hp)(s':Shared):Prop where
 os:s'.os=s.os
 bare:AllBare s'.gens
 ex:∃ (B:Heap) (t:Addr),Heap.FlyingW B outer a cls (.ref t) s'.heap∧HOk P w H' B∧(∀ b o,s.heap.get? b=some o->H b=none->b∉frs outer->B.get? b=some o) ∧
  ∀ b o,s.heap.get? b=some o->b∉frs outer->∃ o',B.get? b=some o'
 slot:∀ b o,s.heap.get? b=some o->H b=none->b∈frs outer->∃ sl,s'.heap.get? b=some { o with slots:=sl }
 free:∀ b o,s.heap.get? b=some o->H b=none->H' b=none
 tups:∀ b xs,H b=some (.tup xs)->H' b=some (.tup xs)
 frzs:∀ b o u,H b=some (.frz o u)->H' b=some (.frz o u)
 tbls:∀ b ps,H b=some (.tbl ps)->∃ more,H' b=some (.tbl (ps++more))
def CX1 (P:Program)(w:World):CXT:=fun outer H s E e s'=>∃ a cls H',e = .ref a∧Fly P w outer H s a cls H' s'∧E cls none H'
section
variable {X:Cx}{pins:List (Addr×Obj)}{σ:St}{H H':Hp}{s s':Shared}{a:Addr}{cls:Value}{E:Value->Shared->Prop}
structure Own (X:Cx):Prop where
 stk:X.stack=X.env::X.outer
 fr:X.env.frame=some X.env.locals
 ex:X.ex=[]
theorem Own.frs (O:Own X){b:Addr}:b∈frs X.stack↔b=X.env.locals∨b∈frs X.outer:=by
 unfold L2.frs;rw[O.stk,gx,O.fr];exact ar
theorem Inv.oldNe (I:Inv X pins σ H s){b:Addr}{o:Obj}(e:X.s₀.heap.get? b=some o):b≠X.env.locals:=bb (bx (Heap.lt_size e) I.ok.above)
theorem Inv.hidHok (I:Inv X pins σ H s):HOk X.prog X.w H (tm s.heap (L2.frs X.stack)):=fun b u e =>
 (I.hok b u e).stay (fun c v hc q=>j7 _ q fun hm=>by
  have n:=I.stkFree c hm;rcases hc with z | z
  ·rw[z,e] at n
   cases n
  ·rw[z] at n
   cases n) (fun _ q=>q) fun _ _ q=>q
theorem Fly.raised {args:List Value}{h:Heap}(I:Inv X pins σ H s)(O:Own X)(hx:Heap.MadeExcOf s.heap h a cls args) :
  wpAny (model X.prog X.w) X.A (leaving X.env (.ref a)) (fun _ s''=>Fly X.prog X.w X.outer X.H₀ X.s₀ a cls H s'') E { s with heap:=h }:=by
 have hst:=I.stack;have hin:∀ env∈X.stack,∀ b,env.frame=some b->b∈L2.frs X.stack:=fun env he b hb=>mn.mpr ⟨env,he,hb⟩
 have hl:=PySem.W.funFrames_hide hst hin;rw[O.stk] at hl;have hfr:=I.ok.frames;rw[O.stk] at hfr;have noEx:∀ b,b∉X.ex:=fun b z=>by
  rw[O.ex] at z;cases z
 refine wpAny_leaves_madeW (s:={ s with heap:=h }) hfr O.fr (fun b o q=>ql _ q) hl hx fun h' t x1 x2 x3 x4=>?_
 have notIn:∀ b o,X.s₀.heap.get? b=some o->b∉L2.frs X.outer->b∉L2.frs (X.env::X.outer):=fun b o e nb z=>by
  rw[<- O.stk] at z;rcases O.frs.mp z with q | q
  ·exact I.oldNe e q
  ·exact nb q
 have hokB:=I.hidHok;rw[O.stk] at hokB;refine⟨I.os,I.bare,⟨_,t,x1,hokB,fun b o e n nb=>?_,fun b o e nb=>?_⟩,fun b o e n hb=>?_,fun b o e n=>I.base.free b o e n (noEx b),I.base.tups,I.base.frzs,I.base.tbls⟩
 ·exact j7 _ (I.base.keep b o e n nb (noEx b)) (notIn b o e nb)
 ·obtain⟨o',e'⟩:=I.base.there b o e (noEx b)
  exact⟨o',j7 _ e' (notIn b o e nb)⟩
 ·obtain⟨sl,e1⟩:=I.base.slot b o e n hb (noEx b)
  obtain⟨_,o2,e2,hd⟩:=I.funs.mem hb;rw[e1] at e2;cases e2;obtain⟨sl2,e3⟩:=x4 b _ (hx.keeps b _ e1) hd;exact⟨sl2,e3⟩
theorem Fly.on (I:Inv X pins σ H s)(O:Own X)(Y:Fly X.prog X.w X.stack H s a cls H' s') :
  wpAny (model X.prog X.w) X.A (leaving X.env (.ref a)) (fun _ s''=>Fly X.prog X.w X.outer X.H₀ X.s₀ a cls H' s'') E s':=by
 obtain⟨B,t,hfl,hokB,kp,th⟩:=Y.ex;have hfr:=I.ok.frames;rw[O.stk] at hfr hfl;have noEx:∀ b,b∉X.ex:=fun b z=>by
  rw[O.ex] at z;cases z
 have notIn:∀ b o,X.s₀.heap.get? b=some o->b∉L2.frs X.outer->b∉L2.frs X.stack:=fun b o e nb z=>by
  rcases O.frs.mp z with q | q
  ·exact I.oldNe e q
  ·exact nb q
 refine wpAny_leaves_onW hfr O.fr hfl fun h' x1 x2=>?_
 refine⟨Y.os.trans I.os,Y.bare,⟨B,t,x1,hokB,fun b o e n nb=>kp b o (I.base.keep b o e n nb (noEx b)) (I.base.free b o e n (noEx b)) (notIn b o e nb),fun b o e nb=>?_⟩,fun b o e n hb=>?_,fun b o e n=>?_,
  fun b xs q=>Y.tups b xs (I.base.tups b xs q),fun b o u q=>Y.frzs b o u (I.base.frzs b o u q),fun b ps q=>?_⟩
 ·obtain⟨o',e'⟩:=I.base.there b o e (noEx b)
  exact th b o' e' (notIn b o e nb)
 ·obtain⟨sl,e1⟩:=I.base.slot b o e n hb (noEx b)
  obtain⟨_,o2,e2,hd⟩:=I.funs.mem hb;rw[e1] at e2;cases e2;obtain⟨sl2,e3⟩:=Y.slot b _ e1 (I.base.free b o e n (noEx b)) (O.frs.mpr (.inr hb));obtain⟨sl3,e4⟩:=x2 b _ e3 hd;exact⟨sl3,e4⟩
 ·obtain⟨o',e'⟩:=I.base.there b o e (noEx b)
  exact Y.free b o' e' (I.base.free b o e n (noEx b))
 ·obtain⟨m1,e1⟩:=I.base.tbls b ps q
  obtain⟨m2,e2⟩:=Y.tbls b _ e1;exact⟨m1++m2,by rw[e2,mm]⟩
end
abbrev Ks:List Value:=[.type "ValueError",.type "Exception",.type "BaseException",.type "object"]
structure Exc (K:ae)(mg:Str->Option Value)(x:Str)(C:Addr):Prop where
 mg:mg x=some (.ref C)
 is:ke K C Ks "ValueError.__new__" = true
theorem Exc.own {K:ae}{mg:Str->Option Value}{x:Str}{C:Addr}{h:Heap}(c:Exc K mg x C)(X:K.In h):OwnCls x C Ks "ValueError.__new__" mg h:=by
 refine⟨c.mg,?_⟩;have q:=c.is;unfold ke at q;split at q
 ·rename_i dd cd sl ho
  split at q
  ·rename_i C' bm k0 k1 k2 k3 n k5 hm hs
   simp only [beq_iff_eq,ju,c7] at q;obtain⟨⟨⟨⟨⟨g1,g2⟩,g3⟩,g4⟩,g5⟩,g6⟩:=q;subst g1 g2;obtain⟨nm,bs,mro,ns,qn,hd,sn,sub,ab,col,del⟩:=cd;have hsl:sl = #[k0,k1,k2,k3,some (.builtin "ValueError.__new__"),k5]:=by
    cases sl with
    | mk l =>
     have hs':l=_:=hs;rw[hs']
   have hm':mro=_:=hm;have g3':del=false:=g3;subst hsl hm' g3';refine⟨bm,ns,nm,qn,bs,hd,sn,sub,ab,col,dd,k0,k1,k2,k3,k5,h.nsMap ns,X _ _ ho,?_,?_,?_⟩
   ·exact .of_isNs (PySem.W.isNs_of_in X g5)
   ·exact PySem.W.nsMap_none_of_in X g5 g6
   ·exact PySem.W.tail_of_in X g4
  ·cases q
 ·cases q
def Wl (E:Value->Hp->Prop)(C:Addr)(t:TA):TS:=fun _ σ H=>t σ H fun vs H1=>vs.length<=sizeLine∧E (.ref C) H1
theorem dS {x:Str}{C:Addr}{e₀:Expr}{rest:List Expr}{np cpos pos:Pos}{t:TA}{E:Value->Hp->Prop}(c:Exc X.K X.mg x C)(hc:X.calm=true)
  (hE:∀ (pins:List (Addr×Obj)) (σ:St) (H:Hp) (s:Shared) (h:Heap) (a:Addr) (args:List Value),Inv X pins σ H s->Heap.MadeExcOf s.heap h a (.ref C) args->E (.ref C) H->X.xe (.ref a) { s with heap:=h })
  (ha:PA X (e₀::rest) t) (hg:Gl X x:=by rfl) (hd:(x==("__debug__" : Str))=false:=by decide)
  (he:starEach (e₀::rest) X.env=(false,eval e₀ X.env)::starEach rest X.env:=by rfl) (hpl:(backTo cpos (starEach rest X.env)).any (·.1)=false:=by rfl) :
  PS X (.Raise (some (.Call (.Name x np) (e₀::rest) [] cpos)) none pos) (Wl E C t):=by
 intro pins s σ H D I h;have O:=c.own I.mod.kin;obtain⟨tl,N,nm,q,bs,hdct,sn,sub,ab,col,dd,k0,k1,k2,k3,k5,mN,hC,hN,hni,T⟩:=O.obj;refine wpAny_Raise_call_subT (C:=C) (nm:=nm) (q:=q) (N:=N) (bs:=bs) (bm:=tl) (hdct:=hdct) (sn:=sn) (sub:=sub) (ab:=ab) (col:=col) (dd:=dd) (k0:=k0) (k1:=k1) (k2:=k2) (k3:=k3) (k5:=k5) PySem.F.excBase_ValueError (mN:=mN)
  (T.hasType (by decide +kernel)) (I.ok.hd hc) (by rw[he];show (false||(backTo cpos (starEach rest X.env)).any (·.1))=false;rw[hpl];rfl) hni (rJ I hg c.mg ⟨rfl,?_⟩ hd)
 have hA:=ha cpos pins s σ H _ I h;rw[he] at hA ⊢;refine Calls.evalArgs_plain (thn hA fun us s2 ⟨vs,H2,I2,r2,hz,q2⟩=>?_);exact⟨rfl,by rw[<- r2.length];exact hz,I2.bk _ _ hC,hN.keeps I2.bk,T.keeps I2.bk,fun h' e hx=>hE pins σ H2 s2 h' e us I2 hx q2⟩
section
variable {P:Program}{w:World}{K:ae}{mg:Str->Option Value}{base:Heap}{N:List Str}{qual:Str}{scope:Scope}{f:Addr}{cdv:Value}{A:Around}{outer:List Env}{s:Shared}{H:Hp}{E:XK}
theorem Zs {CX:CXT}:Own (qS CX P w K mg base N qual scope f cdv A outer s H E):=⟨rfl,rfl,rfl⟩
theorem xG:kW (CX1 P w) (qS (CX1 P w) P w K mg base N qual scope f cdv A outer s H E) E:=fun pins σ H1 s1 e s' I h=>by
 obtain⟨a,cls,H',rfl,Y,q⟩:=h;exact thn (Fly.on I Zs Y) fun _ s'' Z=>⟨a,cls,H',rfl,Z,q⟩
theorem gF {C:Addr}{pins:List (Addr×Obj)}{σ:St}{H1:Hp}{s1:Shared}{h:Heap}{a:Addr}{args:List Value}(I:Inv (qS (CX1 P w) P w K mg base N qual scope f cdv A outer s H E) pins σ H1 s1)(hx:Heap.MadeExcOf s1.heap h a (.ref C) args)(q:E (.ref C) none H1) :
 (qS (CX1 P w) P w K mg base N qual scope f cdv A outer s H E).xe (.ref a) { s1 with heap:=h }:=thn (Fly.raised I Zs hx) fun _ s'' Z=>⟨a,.ref C,H1,rfl,Z,q⟩
theorem aS {X:Cx}:kW (CX1 P w) X E0:=fun _ _ _ _ _ _ _ h=>by
 obtain⟨_,_,_,_,_,q⟩:=h;exact q.elim
theorem Fun.okX {x qual:Str}{st:Stmt}{f:Addr}{fd:FuncData}{N ps:List Str}{k:Nat}{sp:Sp}(F:Fun K x qual st f fd)(S:aU N ps (aF st))(len:∀ vs H Q E,sp vs H Q E->vs.length=ps.length)
  (hbody:∀ (cdv:Value) (A:Around) (outer:List Env) (s:Shared) (H:Hp) (vs:List V) (Q:VK) (E:XK),fY k (A.deeper (envOfC qual (aF st) s.heap.objs.size f cdv))->sp vs H Q E ->
   ∃ t,PSs (qS (CX1 P w) P w K mg base N qual (aF st) f cdv A outer s H E) (fG st) t∧t { nx:=fun _ H'=>Q .non H',rt:=Q } (nQ N vs) H):bW P w K mg base (CX1 P w) (k+1) f fd ps sp:=by
 obtain⟨oc,od,kV,doc,pm,an,cdv,ct,osl,rfl,lk,hcd⟩:=F.ex;exact Us lk hcd S len fun A outer s H vs Q E hr hsp=>hbody cdv A outer s H vs Q E hr hsp
end
def XP (X:Cx)(pins:List (Addr×Obj))(R:St->Value->Hp->Prop)(e:Value)(s':Shared):Prop :=
 ∃ a cls σ' H s1 H',e = .ref a∧Inv X pins σ' H s1∧Fly X.prog X.w X.stack H s1 a cls H' s'∧R σ' cls H'
abbrev TTy:=kM->(St->Value->Hp->Prop)->St->Hp->Prop
def PTy (X:Cx)(st:List Stmt)(t:TTy):Prop :=
 ∀ (pins:List (Addr×Obj)) (s:Shared) (σ:St) (H:Hp) (D:kM) (R:St->Value->Hp->Prop),Inv X pins σ H s->t D R σ H->wpAny (model X.prog X.w) X.A (execs st X.env) (SP X pins D) (XP X pins R) s
section
variable {X:Cx}
abbrev TH:=kM->St->Value->Hp->Prop
def PH (X:Cx)(hs:List ExceptHandler)(t:TH):Prop :=
 ∀ (pins:List (Addr×Obj)) (σ:St) (H:Hp) (s:Shared) (a:Addr) (cls:Value) (H':Hp) (s':Shared) (D:kM),Inv X pins σ H s->Fly X.prog X.w X.stack H s a cls H' s'->t D σ cls H' ->
  wpAny (model X.prog X.w) X.A (handleBy (.ref a) X.env hs) (SP X pins D) X.xe s'
end
namespace RV
section
variable {prog:Program}{w:World}{A:Around}{E:Value->Shared->Prop}{s:Shared}
end
end RV
section
variable {X:Cx}
theorem wC:∀ (x:List Nat) (ls:List (List Nat)),risingS (tx x) (ls.map tx)=true->(∀ y∈ls,¬ y<x)∧ls.Pairwise (fun a b=>¬ b<a)
 | x,[],_=>⟨fun _ h=>(by cases h),.nil⟩
 | x,y::ls,h=>by
  have h':(!ltCps (tx y).cps.toList (tx x).cps.toList&&risingS (tx y) (ls.map tx))=true:=h;rw[c7,cW,cW,ltCps_eq] at h';obtain⟨a,b⟩:=wC y ls h'.2;have h1:¬ y<x:=by simpa using h'.1
  refine⟨fun z hz=>?_,kj.mpr ⟨a,b⟩⟩;rcases ar.mp hz with rfl | hz
  ·exact h1
  ·exact Wd.aAa h1 (a z hz)
theorem oH:∀ (ls:List (List Nat)),sortedS (ls.map tx)=true->ls.Pairwise (fun a b=>¬ b<a)
 | [],_=>.nil
 | x::ls,h=>kj.mpr (wC x ls h)
theorem lO:∀ {us:List Value} {ss:List Str},StrsAre us ss->bV ((ss.map fun x=>x.cps.toList).map T) us
 | _,_,.nil=>.nil
 | _,_,.cons x t h=>.cons ⟨t,by show Value.str x t=Value.str (tx x.cps.toList) t;rw[iN]⟩ (lO h)
theorem gH:eA X (.builtin "sorted") (fun xs H Q=>∃ (p:Addr) (ls:List (List Nat)),xs=[.ref p]∧SqL X.K H p (ls.map T)∧ls.length<64∧∀ (ms:List (List Nat)) (D:Addr),H D=none->ms.Perm ls->ms.Pairwise (fun a b=>¬ b<a)->Q (.ref D) (upd H D (.lst (ms.map T)))):=by
 intro pins s σ H xs us Q I r h;obtain⟨p,ls,rfl,hq,h64,q⟩:=h;obtain⟨u,rfl,ru⟩:=eZ r;cases ru;obtain⟨its,rv,pl,hz⟩:=I.list hq;have hlen:=rv.length;rw[aR] at hlen;refine sorted_strs pl.isList (lL rv) (by omega) fun out ss' a1 a2 a3=>?_
 obtain⟨e,he⟩:=sortedAll_at s.heap its out;have em:(ss'.map fun x=>x.cps.toList).map tx=ss':=by
  rw[bj]
  conv=>rhs;rw[<- iw ss']
  exact ay fun x _=>iN x
 have hp:(ss'.map fun x=>x.cps.toList).Perm ls:=by
  have z:=a2.map fun x=>x.cps.toList
  have e2:(ls.map tx).map (fun x=>x.cps.toList)=ls:=by
   rw[bj]
   conv=>rhs;rw[<- iw ls]
   exact ay fun x _=>cW x
  rw[e2] at z;exact z
 have hpl:=hp.length_eq;refine⟨.ref _,_,I.laid (t':=s.toks) (fun _ _=>sortedAll_old) (g7 _) (o:=.lst ((ss'.map fun x=>x.cps.toList).map T)) ⟨by rw[aR,hpl];rw[aR] at hz;exact hz,out.toList,e,lO a1,by simpa using he⟩,rfl,q _ _ (I.hok.fresh (g7 _)) hp (oH _ (by rw[em];exact a3))⟩
end
def nub:List (List Nat)->List (List Nat)->List (List Nat)
 | acc,[]=>acc
 | acc,l::ls=>if l∈acc then nub acc ls else nub (acc++[l]) ls
def eT (ls:List (List Nat)):Nat->List (List Nat)
 | 0=>[]
 | i+1=>if ls.getD i []∈eT ls i then eT ls i else eT ls i++[ls.getD i []]
theorem lK (ls:List (List Nat)):∀ i,(eT ls i).length<=i
 | 0=>af _
 | i+1=>by
  have h:=lK ls i;rw[eT];split
  ·omega
  ·rw[ak,b7]
   omega
theorem qF (ls:List (List Nat)):∀ i,(eT ls i).Nodup
 | 0=>gu
 | i+1=>by
  have h:=qF ls i;rw[eT];split
  ·exact h
  ·rename_i hn
   refine d9.mpr ⟨h,by simp,fun a ha b hb e=>?_⟩;have hb':b=ls.getD i []:=by simpa using hb
   rw[e,hb'] at ha;exact hn ha
theorem oE (ls:List (List Nat))(x:List Nat):∀ i,i<=ls.length->(x∈eT ls i↔x∈ls.take i)
 | 0,_=>by simp[eT]
 | i+1,hi=>by
  have h:=oE ls x i (by omega);have e:ls.take (i+1)=ls.take i++[ls.getD i []]:=by
   rw[ca,ai,aa (by omega)];rfl
  rw[e,bu,eT];split
  ·rename_i hm
   rw[h];constructor
   ·exact .inl
   ·rintro (q | q)
    ·exact q
    ·have q':x=ls.getD i []:=by simpa using q
     rw[q',<- oE ls _ i (by omega)];exact hm
  ·rw[bu,h]
def uniq (ls:List (List Nat)):List (List Nat):=eT ls ls.length
theorem mH (ls:List (List Nat)):(uniq ls).Nodup:=qF ls _
theorem gA (ls:List (List Nat))(x:List Nat):x∈uniq ls↔x∈ls:=by
 rw[uniq,oE ls x _ (af _),cf]
namespace SE
section
variable {prog:Program}{w:World}{A:Around}{R:Result->Shared->Prop}{J:Addr}{fp wr:List Addr}{G:Array GenState->Array GenState->Prop}{n:Nat}{P:Nat->Value->Prop}{St:Nat->Shared->Prop}
abbrev Has (prog:Program)(w:World)(h:Heap)(D:Addr)(ms:List (List Nat)):Prop:=h.SetOf (fj prog w) D (fun x=>decide (x.cps.toList∈ms)) ms.length
theorem Has.at {h h':Heap}{D:Addr}{ms:List (List Nat)}(x:Has prog w h D ms)(k:∀ o,h.get? D=some o->h'.get? D=some o):Has prog w h' D ms:=by
 obtain⟨o,es,ep,tb,ho,r⟩:=x;exact⟨o,es,ep,tb,k o ho,r⟩
theorem loop (W:WalksS prog w A.in1 J fp wr G n P St){D:Addr}(hD:D∉fp)(ls:List (List Nat))(hv:∀ i v,P i v->∃ t,v=Value.str (tx (ls.getD i [])) t)(hn:n+1<scanBound) :
  ∀ (k i:Nat) (s:Shared),n-i=k->i<=n->St i s->Has prog w s.heap D (eT ls i) ->
   (∀ s',Moved (D::wr) G s s'->Has prog w s'.heap D (eT ls n)->R (.ok (.ret .none)) s')->codeAny (model prog w) A (.builtin "set.update.loop" ⟨[.ref D,.ref J],[]⟩) R s:=by
 have hDw:D∉wr:=fun z=>hD (W.sub _ z)
 have up:∀ b∈wr,b∈D::wr:=fun b hb=>.tail _ hb
 intro k
 induction k with
 | zero =>
  intro i s hk hi st hs hR;obtain rfl:i=n:=by omega
  refine codeAny_builtin e9 ?_;rw[Around.under_plainId dg];refine wpAny_bind (m:=pyNext (.ref J)) (W.done s _ _ st fun s2 mv=>?_);exact (show wpAny _ A.in1 (ret Value.none) _ _ s2 from wpAny_pure (hR s2 (mv.mono up) (hs.at fun o e=>mv.heap D o hDw e)))
 | succ k ih =>
  intro i s hk hi st hs hR;have hlt:i<n:=by omega
  refine codeAny_builtin e9 ?_;rw[Around.under_plainId dg];refine wpAny_bind (m:=pyNext (.ref J)) (W.item i s _ _ hlt st fun v s2 pv st2 mv=>?_);obtain⟨t,rfl⟩:=hv i v pv;have hs2:=hs.at fun o e=>mv.heap D o hDw e
  refine wpAny_bind (m:=holding [Value.str (tx (ls.getD i [])) t] (setAdd D (.str (tx (ls.getD i [])) t))) (wpAny_holding ?_);unfold setAdd;refine wpAny_holding (wpAny_bind ((fj prog w).pyHash (k:=tx (ls.getD i [])) (strKind_is _ _ _ _) ?_));have hl:=lK ls i;refine wpAny_setAddHashed_of (knd:=fj prog w) (s:={ s2 with toks:=s2.toks+1 }) (strKind_is _ _ _ _) rfl hs2 (by omega) fun h3 sb x3=>?_
  have x4:Has prog w h3 D (eT ls (i+1)):=by
   refine nn x3 (fun y=>?_) ?_
   ·rw[eT]
    split
    ·rename_i hm
     rw[c9,jm,decide_eq_true_iff,decide_eq_true_iff];constructor
     ·rintro (q | q)
      ·exact q
      ·rw[q,cW]
       exact hm
     ·exact .inl
    ·rw[c9,jm,decide_eq_true_iff,decide_eq_true_iff,decide_eq_true_iff,bu,a7]
     constructor
     ·rintro (q | q)
      ·exact .inl q
      ·right
       rw[q,cW]
     ·rintro (q | q)
      ·exact .inl q
      ·right
       rw[<- q,iN]
   ·rw[cW,eT]
    by_cases hm:ls.getD i []∈eT ls i
    ·rw[if_pos hm,if_pos (decide_eq_true hm)]
    ·rw[if_neg hm,if_neg (by rw[decide_eq_false hm];exact am),ak]
     rfl
  refine wpAny_pure ⟨plainId_quiet dg _,ih (i+1) _ (by omega) hlt (W.frame _ s2 _ _ st2 (g7 _) fun b hb o e=>(sb.2 b fun z=>hD (z▸hb)).trans e) x4 fun s5 m5 x5=>?_⟩;refine hR s5 (Moved.trans W.gtrans ((mv.mono up).then_heap (g7 _) fun b o hb e=>(sb.2 b fun z=>hb (z▸.head _)).trans e) m5) x5
variable {E:Value->Shared->Prop}{s:Shared}
theorem Rn {l:Addr}{its:Array Value}{ls:List (List Nat)}{Q:Value->Shared->Prop}(hh:A.handled=none)(hl:s.heap.IsList l its)(hv:∀ i v,its[i]?=some v->∃ t,v=Value.str (tx (ls.getD i [])) t)(hn:its.size+1<scanBound)
  (h:∀ (h':Heap) (tk:Nat),Has prog w h' s.heap.objs.size (eT ls its.size)->(∀ b o,s.heap.get? b=some o->h'.get? b=some o)->Q (.ref s.heap.objs.size) { s with heap:=h',toks:=tk }) :
  wpAny (model prog w) A (call (.type "set") [.ref l]) Q E s:=by
 obtain⟨mc,mt,f0⟩:=F.called_set.mro;have f1:=F.called_set.made;have f2:=F.called_set.sub;have f3:=F.called_set.notType;have f4:=F.called_set.canCreate;have f5:=F.typeCall_set_1 (.ref l);refine wpAny_call (codeAny_of_tree (show wpAny _ _ (callAny (.type "set") _) _ _ _ from wpAny_pure ⟨Code.quiet_builtin _ (by decide +kernel),codeAny_builtin F.entry_type_call ?_⟩))
 rw[Around.under_plain (weight_type_call_type "set" [.ref l] []) rfl]
 repeat (any_goals (first | wp_step | assumption))
 refine codeAny_mono (code_set_new_1 (.ref l) (E:=E) (Q₁:=fun ob s1=>∃ b:Bool,ob = .ref s.heap.objs.size∧s1 = { s with heap:=s.heap.push { cls:=.type "set",dict:=none,data:=.set #[] 0 (.fresh 0 0 b) } }) fun b=>⟨b,rfl,rfl⟩) fun r s1 hr=>?_
 cases r with
 | error e=>exact hr
 | ok fl =>
  cases fl with
  | ret ob =>
   obtain⟨b,rfl,rfl⟩:=hr;generalize hob:({ cls:=.type "set",dict:=none,data:=.set #[] 0 (.fresh 0 0 b) }:Obj)=ob
   have hD:(s.heap.push ob).get? s.heap.objs.size=some ob:=Heap.get?_push_size _ (by rw[<- hob];rfl);have hT:Shared.TypeIs { s with heap:=s.heap.push ob } (.ref s.heap.objs.size) "set" := ⟨_,hD,by rw[<- hob]⟩
   have f6:=F.called_set.init.lookup;have f7:=F.called_set.init.bind (.ref s.heap.objs.size)
   repeat (any_goals (first | wp_step | assumption))
   refine codeAny_mono (codeAny_call_builtin (R:=wants (fun r s2=>r = .none∧∃ h' tk,s2 = { s with heap:=h',toks:=tk }∧Has prog w h' s.heap.objs.size (eT ls its.size)∧∀ b o,s.heap.get? b=some o->h'.get? b=some o) E)
    F.called_set.init.plain F.entry_set_init (check_set_init_1 hT ?_)) fun r2 s2 hr2=>?_
   ·obtain⟨⟨oc,od,odt,osl⟩,hol,hcl,nl,hdl⟩:=id hl
    simp only at hcl hdl;subst hcl hdl;have hol':(s.heap.push ob).get? l=some { cls:=.type "list",dict:=od,data:=.seq its nl,slots:=osl }:=Heap.get?_push_of_some _ hol
    have f8:=F.sub_list_set;have f9:=F.sub_list_frozenset;have f10:(Value.type "list" == Value.type "dict")=false:=by decide
    have hl1:(s.heap.push ob).IsList l its:=⟨_,hol',rfl,nl,rfl⟩;subst hob;unfold Builtin.«set.__init__» noKeywords Builtin.Frozenset.updateFrom;generalize hPI:pyIter=PI
    wp_walk
    subst hPI;refine wpAny_pyIter_list hl1 ?_;refine wpAny_bind (wpAny_runValue ?_);have hlt:l<s.heap.objs.size:=Heap.lt_size hol;have hh3:A.in1.in1.in1.handled=none:=by simp[hh]
    have hsz:(s.heap.push { cls:=.type "set",dict:=none,data:=.set #[] 0 (.fresh 0 0 b) }).objs.size=s.heap.objs.size+1:=Heap.size_push _ _
    have hne:l≠(s.heap.push { cls:=.type "set",dict:=none,data:=.set #[] 0 (.fresh 0 0 b) }).objs.size:=by rw[hsz];exact bb (dz hlt)
    have hfp:s.heap.objs.size∉[(s.heap.push { cls:=.type "set",dict:=none,data:=.set #[] 0 (.fresh 0 0 b) }).objs.size,l]:=by
     rw[hsz];intro z;rcases ar.mp z with e | e
     ·exact bb (gj _) e
     ·exact g0 hlt (a7.mp e)
    refine loop ((Walks.list hh3 _ l hne its).toS) (D:=s.heap.objs.size) hfp ls hv hn (its.size-0) 0 _ (by omega) (b6 _) ⟨⟨_,Heap.get?_push_size _ rfl,rfl,rfl⟩,hl1.push _⟩ ?_ fun s3 mv x3=>?_
    ·have hg:((s.heap.push { cls:=.type "set",dict:=none,data:=.set #[] 0 (.fresh 0 0 b) }).push { cls:=.type "list_iterator",data:=.fields #[.ref l,.int 0 0] }).get? s.heap.objs.size=some { cls:=.type "set",dict:=none,data:=.set #[] 0 (.fresh 0 0 b) }:=Heap.get?_push_of_some _ hD
     exact nn ((PyProof.Rows.setObjOf_fresh (knd:=fj prog w) b).setOf hg (by unfold scanBound;omega)) (fun _=>rfl) rfl
    ·obtain⟨h3,g3,d3,tk3,os3⟩:=s3
     obtain rfl:g3=s.gens:=mv.gens;obtain rfl:d3=s.drawn:=mv.drawn;obtain rfl:os3=s.os:=mv.os;refine wpAny_pure (show wpAny _ _ (ret Value.none) _ _ _ from wpAny_pure ⟨rfl,h3,tk3,rfl,x3,fun c o e=>?_⟩);have hc:=Heap.lt_size e;exact mv.heap c o (show c∉[s.heap.objs.size,(s.heap.push { cls:=.type "set",dict:=none,data:=.set #[] 0 (.fresh 0 0 b) }).objs.size] by
      rw[hsz];intro z;rcases ar.mp z with e | e
      ·exact bb hc e
      ·exact bb (dz hc) (a7.mp e)) (Heap.get?_push_of_some _ (Heap.get?_push_of_some _ e))
   ·cases r2 with
    | error e=>exact hr2
    | ok fl2 =>
     cases fl2 with
     | ret r =>
      obtain⟨rfl,h3,tk,rfl,x3,k3⟩:=hr2
      repeat (any_goals (first | wp_step | assumption))
      exact h _ _ x3 k3
     | _=>exact hr2.elim
  | _=>exact hr.elim
end
end SE
def Mf (P:Program)(w:World)(D:Addr)(ms:List (List Nat)):HO:=.ext fun h=>SE.Has P w h D ms
section
variable {X:Cx}
theorem Nq {ls:List (List Nat)}{us:List Value}(r:bV (ls.map T) us){i:Nat}{v:Value}(h:us[i]?=some v):∃ t,v=Value.str (tx (ls.getD i [])) t:=by
 have hl:=r.length;rw[aR] at hl;have hi:i<ls.length:=by have:=(aw.mp h).1;omega
 obtain⟨u,h1,h2⟩:=r.get (i:=i) (x:=T ls[i]) (by rw[ah,aa hi];rfl);rw[h] at h1;cases h1;rw[ai,aa hi];exact h2
theorem Jo (hc:X.calm=true):eA X (.type "set") (fun xs H Q=>∃ (p:Addr) (ls:List (List Nat)),xs=[.ref p]∧SqL X.K H p (ls.map T)∧ls.length+1<4096∧∀ D,H D=none->Q (.ref D) (upd H D (Mf X.prog X.w D (uniq ls)))):=by
 intro pins s σ H xs us Q I r h;obtain⟨p,ls,rfl,hq,hz,q⟩:=h;obtain⟨u,rfl,ru⟩:=eZ r;cases ru;obtain⟨its,rv,pl,_⟩:=I.list hq;have hlen:=rv.length;rw[aR] at hlen;refine SE.Rn (I.ok.hd hc) pl.isList (ls:=ls) (fun i v e=>Nq rv (by simpa using e)) (by rw[az];unfold scanBound;omega) fun h' tk x k=>?_
 have e:eT ls its.toArray.size=uniq ls:=by rw[az,<- hlen];rfl
 rw[e] at x;have hf:H s.heap.objs.size=none:=I.hok.fresh (af _);refine⟨.ref s.heap.objs.size,_,I.laid (t':=tk) k (af _) (o:=Mf X.prog X.w s.heap.objs.size (uniq ls)) ?_,rfl,q _ hf⟩;refine⟨x,?_,fun h1 h2 x1 kk=>x1.at kk⟩;obtain⟨o,_,_,_,ho,_⟩:=x;exact⟨o,ho⟩
theorem Jh:eA X (.builtin "len") (fun xs H Q=>∃ (D:Addr) (ms:List (List Nat)),xs=[.ref D]∧H D=some (Mf X.prog X.w D ms)∧Q (.int (ms.length:Nat)) H):=by
 intro pins s σ H xs us Q I r h;obtain⟨D,ms,rfl,hD,q⟩:=h;obtain⟨u,rfl,ru⟩:=eZ r;cases ru;obtain⟨⟨o,es,ep,tb,ho,hex,hd,_,_,hb,hf,hn⟩,_⟩:=(show cK X.prog X.w H s.heap D (Mf X.prog X.w D ms) from I.hok D _ hD);have hb':es.size<4096:=hb;exact call_len_set ho hex hd hf (by omega) ⟨.int (ms.length:Nat),H,I.tok _,⟨s.toks+1,by rw[<- hn]⟩,q⟩
namespace LM
end LM
theorem Ei (K:ae)(hK:X.K=K):eA X (.builtin "len") (fun xs H Q=>∃ p ys,xs=[.ref p]∧(SqL K H p ys∨SqT K H p ys)∧Q (.int ys.length) H):=by
 subst hK;exact aN
theorem Jz (K:ae)(hK:X.K=K):IxR X (Zk K):=by
 subst hK;exact cG
end
def Itx (l:List Nat):It:=⟨fun i _=>i<l.length,fun i H x H'=>H'=H∧∃ c,l[i]?=some c∧x=T [c],fun i _=>l.length<=i⟩
theorem Iu {P:Program}{w:World}{K:ae}{tg:Expr}{it:Addr}{ty:String}{l:List Nat}{t:Tok}(hty:ty = "str_ascii_iterator" ∨ ty = "str_iterator")
  (W:∀ A:Around,A.handled=none->Walks P w A it [it] [it] (tx l).cps.size (SignAt (tx l)) (fun i h=>h.IsStrIter it ty (tx l) t i)):vB P w K tg (Itx l) [it] it (fun i h=>h.IsStrIter it ty (tx l) t i) where
 mem:=by simp
 obj:=fun i h st b hb=>by
  have e:b=it:=by simpa using hb
  subst e;obtain⟨o,e,c,d⟩:=st;exact⟨o,e,fun v z=>by rw[d] at z;cases z⟩
 keep:=fun i h h' st k=>by
  obtain⟨o,e,r⟩:=st;exact⟨o,k it (by simp) o e,r⟩
 item:=by
  intro X hP hw hK hc i pins s σ H E I hf st hg;subst hP hw hK;obtain⟨f0,f1,f2,f3,f4,f5⟩:=hf it (by simp);refine (W X.A (I.ok.hd hc)).item i s _ _ (by have:i<l.length:=hg;simpa [tx] using this) st fun v h' tk hv st' kk=>?_
  obtain⟨c,u,hcu,rfl⟩:=hv;have I1:Inv X pins σ H { s with heap:=h',toks:=tk }:=I.turned (fun b o hb e=>kk b o (by simpa using hb) e) f0 f1 f3 f4 f5;obtain⟨o,e,cl,d⟩:=id st';refine⟨_,rfl,Fy (s:={ s with heap:=h',toks:=tk }) (n:=ty) e cl d (by rcases hty with rfl | rfl <;> decide) ⟨T [c],H,I1,⟨u,rfl⟩,⟨rfl,c,?_,rfl⟩,st',fun b hb=>(hf b hb).1⟩⟩
  simpa [tx] using hcu
 done:=by
  intro X hP hw hK hc i pins s σ H E I hf st hg;subst hP hw hK;obtain⟨f0,f1,f2,f3,f4,f5⟩:=hf it (by simp);have hn:l.length<=i:=hg;obtain⟨o,e,cl,d⟩:=id st;rcases hty with rfl | rfl
  ·exact wpAny_pyNext_ascii_end (I.ok.hd hc) st (by simpa [tx] using hn) fun h' eb=>⟨rfl,I.turned (t':=s.toks) (fun b o hb e=>eb b o hb e) f0 f1 f3 f4 f5⟩
  ·exact wpAny_pyNext_wide_end (I.ok.hd hc) st (by simpa [tx] using hn) fun h' eb=>⟨rfl,I.turned (t':=s.toks) (fun b o hb e=>eb b o hb e) f0 f1 f3 f4 f5⟩
 self:=fun A i s Q E st h=>by
  rcases hty with rfl | rfl
  ·exact wpAny_pyIter_striter_ascii st h
  ·exact wpAny_pyIter_striter_wide st h
def aAZ (tl:TE):TI:=fun σ H R=>tl σ H fun x H1=>∃ l,x=T l∧R (Itx l) H1
section
variable {X:Cx}{tg:Expr}
theorem Fg {e:Expr}{tl:TE}(hl:PE X e tl):PI X tg e (aAZ tl):=by
 intro pins s σ H R I h;refine thn (hl pins s σ H _ I h) fun v s1 ⟨x,H1,I1,r1,q1⟩=>?_
 obtain⟨l,rfl,q⟩:=q1;obtain⟨t,rfl⟩:=r1;have fin:∀ (ty:String) (o:Obj),(ty = "str_ascii_iterator" ∨ ty = "str_iterator")->(∀ A:Around,A.handled=none->Walks X.prog X.w A s1.heap.objs.size [s1.heap.objs.size] [s1.heap.objs.size] (tx l).cps.size (SignAt (tx l)) (fun i h=>h.IsStrIter s1.heap.objs.size ty (tx l) t i)) ->
   (s1.heap.push o).IsStrIter s1.heap.objs.size ty (tx l) t 0->PIE X pins σ tg R (.ref s1.heap.objs.size) { s1 with heap:=s1.heap.push o }:=fun ty o hty W st=>by
  refine⟨s1.heap.objs.size,[s1.heap.objs.size],_,_,H1,rfl,I1.kept (t':=s1.toks) fun b o e=>Heap.get?_push_of_some _ e,Iu hty W,st,fun b hb=>?_,q⟩;have e:b=s1.heap.objs.size:=by simpa using hb
  subst e;exact I1.fpOk (af _) (I1.hok.fresh (af _))
 cases ha:(tx l).cps.all (· < 128)
 ·exact wpAny_pyIter_wide ha (fin "str_iterator" _ (.inr rfl) (fun A hA=>Walks.strWide hA _ (tx l) t) ⟨_,Heap.get?_push_size _ rfl,rfl,rfl⟩)
 ·exact wpAny_pyIter_ascii ha (fin "str_ascii_iterator" _ (.inl rfl) (fun A hA=>Walks.strAscii hA _ (tx l) t) ⟨_,Heap.get?_push_size _ rfl,rfl,rfl⟩)
end
theorem Oz {l:List Nat}{g:TG}{tb:TS}{D:kM}{σ:St}{H:Hp}(Pv:Nat->St->Hp->Prop)(h0:Pv 0 σ H)
  (hs:∀ i c σ H,l[i]?=some c->Pv i σ H->g (T [c]) σ H fun σ2 H2=>tb { D with nx:=Pv (i+1),ct:=Pv (i+1),bk:=D.nx } σ2 H2) (hd:∀ σ H,Pv l.length σ H->D.nx σ H) :
  ∃ W:Nat->Nat->St->Hp->Prop,(∃ m,W 0 m σ H)∧∀ i m σ H,W i m σ H ->
   ((Itx l).stop i H∧D.nx σ H)∨((Itx l).go i H∧∃ N:St->Hp->Prop,(∀ σ' H',N σ' H'->∃ m',m'<m∧W (i+1) m' σ' H')∧∀ x H',(Itx l).yld i H x H'->g x σ H' fun σ2 H2=>tb { D with nx:=N,ct:=N,bk:=D.nx } σ2 H2):=by
 refine⟨fun i m σ H=>m=l.length-i∧i<=l.length∧Pv i σ H,⟨l.length,by simp,b6 _,h0⟩,?_⟩;rintro i m σ H ⟨rfl,hi,p⟩;by_cases hlt:i<l.length
 ·refine .inr ⟨hlt,Pv (i+1),fun σ' H' p'=>⟨l.length-(i+1),by omega,rfl,hlt,p'⟩,fun x H' y=>?_⟩
  obtain⟨rfl,c,hc,rfl⟩:=y;exact hs i c σ _ hc p
 ·obtain rfl:i=l.length:=by omega
  exact .inl ⟨af _,hd σ H p⟩
section
variable {X:Cx}
theorem Co:OpR X (compareOp .NotIn) (fun x y H Q=>∃ c,x=T [c]∧∃ l,y=T l∧Q (.bl (!decide (c∈l))) H):=by
 intro pins s σ H x y v u Q I rx ry h;obtain⟨c,e1,l,e2,q⟩:=h;exact zL pins s σ H x y v u Q I rx ry ⟨tx [c],tx l,e1,e2,by rw[show tx [c]=⟨#[c]⟩ from rfl,StrLaws.found_one,cW];exact q⟩
namespace RV
variable {prog:Program}{w:World}{A:Around}{E:Value->Shared->Prop}{s:Shared}
end RV
end
section
variable {P:Program}{w:World}{K:ae}{mg:Str->Option Value}{base:Heap}
theorem Fun.okN {x qual:Str}{st:Stmt}{f:Addr}{fd:FuncData}{N ps:List Str}{k:Nat}{sp:Sp}(F:Fun K x qual st f fd)(S:aU N ps (aF st))(len:∀ vs H Q E,sp vs H Q E->vs.length=ps.length)
  (hbody:∀ (cdv:Value) (A:Around) (outer:List Env) (s:Shared) (H:Hp) (vs:List V) (Q:VK) (E:XK),fY k (A.deeper (envOfC qual (aF st) s.heap.objs.size f cdv))->sp vs H Q E ->
   ∃ t,PSs (qS (CX1 P w) P w K mg base N qual (aF st) f cdv A outer s H E).nox (fG st) t∧t { nx:=fun _ H'=>Q .non H',rt:=Q } (nQ N vs) H):bW P w K mg base (CX1 P w) (k+1) f fd ps sp:=by
 obtain⟨oc,od,kV,doc,pm,an,cdv,ct,osl,rfl,lk,hcd⟩:=F.ex;refine Us lk hcd S len fun A outer s H vs Q E hr hsp=>?_
 obtain⟨t,h,q⟩:=hbody cdv A outer s H vs Q E hr hsp;exact⟨t,h.nox,q⟩
end
namespace EX
open PySem.W PySem.Calls PySem.Builtin PySem.Builtin.ObjectAttr PySem.Builtin.Getset_descriptor
variable {prog:Program}{w:World}{A:Around}{E:Value->Shared->Prop}{s:Shared}{K:ae}{a C:Addr}
end EX
section
variable {X:Cx}
end
section
variable {X:Cx}{es:List Expr}{te:TE}{t:TA}
theorem Ur {c:Const}{j:Nat}{p:Pos}(ha:PE X (.Constant c j p) te)(hr:PA X es t):PA X (.Constant c j p::es) (tJ te t):=aA ha hr rfl
theorem An {x:Str}{p:Pos}(ha:PE X (.Name x p) te)(hr:PA X es t):PA X (.Name x p::es) (tJ te t):=aA ha hr rfl
theorem Zq {a b:Expr}{o:Operator}{p:Pos}(ha:PE X (.BinOp a o b p) te)(hr:PA X es t):PA X (.BinOp a o b p::es) (tJ te t):=aA ha hr rfl
theorem Yq {as:List Expr}{k}{p:Pos}(ha:PE X (.Tuple as k p) te)(hr:PA X es t):PA X (.Tuple as k p::es) (tJ te t):=aA ha hr rfl
def Oe:List ((Int×Nat×Pos)×(Int×Nat×Pos)×Nat×Pos)->List Expr
 | []=>[]
 | ((i,j,p),(i',j',p'),k,q)::r=>.Tuple [.Constant (.int i) j p,.Constant (.int i') j' p'] k q::Oe r
def Eu:List (Int×Int)->TA
 | []=>fun _ H Q=>Q [] H
 | (a,b)::r=>fun σ H Q=>∀ t,H t=none->Eu r σ (upd H t (.tup [.int a,.int b])) fun vs H1=>Q (.ref t::vs) H1
theorem Ac:∀ l:List ((Int×Nat×Pos)×(Int×Nat×Pos)×Nat×Pos),PA X (Oe l) (Eu (l.map fun x=>(x.1.1,x.2.1.1)))
 | []=>aC
 | ((i,j,p),(i',j',p'),k,q)::r=>fun pos pins s σ H Q I h=>by
  have h0:PE X (.Tuple [.Constant (.int i) j p,.Constant (.int i') j' p'] k q) (Zm (tJ (tC (.int i)) (tJ (tC (.int i')) Ze))):=oR (Ur aG (Ur aG aC));refine Yq (X:=X) h0 (Ac r) pos pins s σ H Q I ⟨?_,fun t ht=>h t ht⟩;have hs:sizeLine=16777216:=sizeLine_eq;show 2<=sizeLine;omega
theorem xI:∀ (l:List (Int×Int)) {σ:St} {H:Hp} {Q:List V->Hp->Prop},
  (∀ vs H1,vs.length=l.length->aK H H1->(∀ (j:Nat) (p:Int×Int),l[j]?=some p->∃ t,vs[j]?=some (.ref t)∧H1 t=some (.tup [.int p.1,.int p.2]))->Q vs H1)->Eu l σ H Q
 | [],_,H,_,h=>h [] H rfl (aK.refl _) fun j p e=>by cases e
 | (a,b)::r,σ,H,Q,h=>fun t ht=>by
  refine xI r fun vs H1 hl hs hv=>h (.ref t::vs) H1 (by rw[aq,hl,aq]) (fun c o e=>hs c o (by rw[aM (aO e ht)];exact e)) fun j p e=>?_
  cases j with
  | zero =>
   have e':(a,b)=p:=by simpa using e
   subst e';exact⟨t,rfl,hs t _ aD⟩
  | succ j =>
   obtain⟨t',h1,h2⟩:=hv j p (by simpa using e);exact⟨t',by simpa using h1,h2⟩
end
section
variable {X:Cx}{tg:Expr}
end
end L2
namespace L2
open PySem
section
variable {X:Cx}{N':List Str}{scope:Scope}{x:Str}{px:Pos}{elt iter cd:Expr}{pos:Pos}{te:TE}{tc:TT}{wi:TI}
theorem rY (S:bQ X.N N' X.env.scope scope x)(hc:X.calm=true)(hi:PI X (.Name x px) iter wi)(ht:∀ cl C s H fp,PT (bZ X N' scope cl C s H fp) cd tc)(he:∀ cl C s H fp,PE (bZ X N' scope cl C s H fp) elt te)
  (hs:∀ x,foldedSetIterable iter X.env x=pure x:=by intro _;rfl):PE X (.ListComp elt [⟨.Name x px,iter,[cd],0⟩] scope pos) (Qt wi tc te) :=
 Be (at':=fun σ Q=>eQ tc te σ Q) S hc hi (fun cl C s H fp=>Gp (ht cl C s H fp)) he (fun _ _ _ _ h=>h) hs
theorem dF {i:Nat}{y:Str}{py spos:Pos}(S:bQ X.N N' X.env.scope scope x)(hc:X.calm=true)(hi:PI X (.Name x px) iter wi)(ht:∀ cl C s H fp,PT (bZ X N' scope cl C s H fp) cd tc)(he:∀ cl C s H fp,PE (bZ X N' scope cl C s H fp) elt te)
  (hN:X.N.Nodup) (hy:X.N[i]?=some y) (hyl:X.env.scope.names.lookup y=some .local)
  (hsw:swapsWith (.ListComp elt [⟨.Name x px,iter,[cd],0⟩] scope pos) (some (.Name y py)) spos.line X.env=pure true:=by rfl)
  (hs:∀ x,foldedSetIterable iter X.env x=pure x:=by intro _;rfl):PS X (.Assign [.Name y py] (.ListComp elt [⟨.Name x px,iter,[cd],0⟩] scope pos) spos) (Mc (Qt wi tc te) (xE i)) :=
 qA (at':=fun σ Q=>eQ tc te σ Q) S hc hi (fun cl C s H fp=>Gp (ht cl C s H fp)) he (fun _ _ _ _ h=>h) hN hy hyl hsw hs
end
section
variable {X:Cx}
end
theorem iD {α:Type}(p:α->Bool)(l:List α)(i:Nat)(v:α)(h:l[i]?=some v):(l.take (i+1)).filter p=(l.take i).filter p++(if p v then [v] else []):=by
 rw[ca,h,gl];cases hp:p v <;> simp[hp]
theorem jX {α:Type}(p:α->Bool)(l:List α)(i:Nat):((l.take i).filter p).length<=i:=by
 have h1:=cq p (l.take i);rw[a6] at h1;omega
theorem pG (w:List Nat)(k:Nat):fP w none (some (k:Int))=w.take k:=by
 unfold fP;rw[HT.eF,HT.eO,gd,iu];by_cases h:k<=w.length
 ·rw[fm h]
 ·rw[Nat.min_eq_right (by omega),cf,cj (by omega)]
end L2
set_option autoImplicit false
namespace SR
open PySem PyProof.Rows
def LtR (prog:Program)(w:World)(A:Around)(E:Value->Shared->Prop)(s:Shared)(κ:KeyKind)(kd:SortKind):Prop :=
 ∀ (st:SortSt) (x y:Keyed) (a b:κ.α) (Q:Option Bool->SortSt->Prop),kindOf st=kd->κ.keyOf x.1=some a->κ.keyOf y.1=some b->Q (some (κ.blt a b)) st->wpS (model prog w) A E s (lt' x y) Q st
theorem Vn {prog:Program}{w:World}{A:Around}{E:Value->Shared->Prop}{s:Shared}{κ:KeyKind}{kd:SortKind}
  (h:∀ (E:Value->Shared->Prop) (x y:Value) (a b:κ.α) (Q:Bool->Shared->Prop),κ.keyOf x=some a->κ.keyOf y=some b->Q (κ.blt a b) s->wpAny (model prog w) A (keyLt' kd x y) Q E s):LtR prog w A E s κ kd:=by
 intro st x y a b Q hk ha hb hq;rw[lt'_eq];refine wpS_bind (wpS_get ?_);rw[hk];exact wpS_bind (wpS_lift (wpAny_attempt (h _ x.1 y.1 a b _ ha hb ⟨rfl,wpS_pure hq⟩)))
theorem Ub {prog:Program}{w:World}{A:Around}{E:Value->Shared->Prop}{s:Shared}{κ:KeyKind}(hO:κ.OneLt):LtR prog w A E s κ oneType' :=
 Vn fun E x y a b Q ha hb hq=>by rw[keyLt'_oneType];exact hO prog w A E s x y a b ha hb hq
structure SB (kd:SortKind)(z:Array Keyed)(st:SortSt):Prop where
 prm:(arrOf st).Perm z
 knd:kindOf st=kd
 ffl:failedOf st=none
theorem SB.sz {kd:SortKind}{z:Array Keyed}{st:SortSt}(h:SB kd z st):(arrOf st).size=z.size:=h.prm.size_eq
def Up (κ:KeyKind)(xs:Array Keyed)(l r:Nat):Prop:=∀ i j,l<=i->i<=j->j<r->κ.kle (KK κ xs i) (KK κ xs j)
structure Kp (lo:Nat)(st st':SortSt):Prop where
 low:∀ k,k<lo->(arrOf st')[k]?=(arrOf st)[k]?
 pen:pendingOf st'=pendingOf st
section
variable {prog:Program}{w:World}{A:Around}{E:Value->Shared->Prop}{s:Shared}{z:Array Keyed}{κ:KeyKind}{kd:SortKind}
theorem SB.key {st:SortSt}(h:SB kd z st)(hz:KeysOf κ z){i:Nat}(hi:i<z.size):∃ x p a,(arrOf st)[i]?=some (x,p)∧κ.keyOf x=some a∧KK κ (arrOf st) i=a:=by
 have hi':i<(arrOf st).size:=by rw[h.sz];exact hi
 have hm:(arrOf st)[i]∈z.toList:=(Array.perm_iff_toList_perm.mp h.prm).mem_iff.mp (by simp);obtain⟨a,ha⟩:=hz _ hm;have e:(arrOf st)[i]?=some (arrOf st)[i]:=getElem?_pos _ i hi';exact⟨(arrOf st)[i].1,(arrOf st)[i].2,a,by rw[e],ha,by unfold KK;rw[e];simp[ha]⟩
theorem w_lt {st:SortSt}{i j:Nat}{Q:Option Bool->SortSt->Prop}(hO:LtR prog w A E s κ kd)(hB:SB kd z st)(hz:KeysOf κ z)(hi:i<z.size)(hj:j<z.size)
  (h:Q (some (κ.blt (KK κ (arrOf st) i) (KK κ (arrOf st) j))) st):wpS (model prog w) A E s (ltAt' i j) Q st:=by
 obtain⟨x,p,a,e1,ha,ka⟩:=hB.key hz hi;obtain⟨y,q,b,e2,hb,kb⟩:=hB.key hz hj;rw[ka,kb] at h;rw[ltAt'_eq];refine wpS_bind (wpS_get ?_);dsimp only;rw[elem'_eq,elem'_eq,e1,e2];refine wpS_bind (wpS_pure (wpS_bind (wpS_pure ?_)));exact hO st (x,p) (y,q) a b Q hB.knd ha hb h
def upL (lo a m:Nat):StateT SortSt Sem AscSt :=
 forIn [a:m] ((none,a):AscSt) fun _ c=>do
  let o <- ltAt' (lo+c.snd) (lo+c.snd-1)
  match o with
  | some t=>if t=true then pure (ForInStep.done (none,c.snd)) else pure (ForInStep.yield (none,c.snd+1))
  | _=>pure (ForInStep.done (some none,c.snd))
theorem Vm {xs:Array Keyed}{l:Nat}:Up κ xs l (l+1):=fun i j h1 h2 h3=>by
 obtain rfl:i=j:=by omega
 exact KeyOrd.kle_refl _
theorem Sk {xs:Array Keyed}{l r:Nat}(hr:l<r)(h:Up κ xs l r)(hl:κ.kle (KK κ xs (r-1)) (KK κ xs r)):Up κ xs l (r+1):=fun i j h1 h2 h3=>by
 by_cases hj:j<r
 ·exact h i j h1 h2 hj
 ·obtain rfl:j=r:=by omega
  by_cases hi:i=j
  ·subst hi;exact KeyOrd.kle_refl _
  ·exact KeyOrd.kle_trans (h i (j-1) h1 (by omega) (by omega)) hl
theorem aAV {st:SortSt}{lo a m:Nat}{Q:AscSt->SortSt->Prop}(hO:LtR prog w A E s κ kd)(hz:KeysOf κ z)(hm:lo+m<=z.size)(ha:1<=a)(ham:a<=m)(hB:SB kd z st)(hs:Up κ (arrOf st) lo (lo+a))
  (h:∀ n,a<=n->n<=m->Up κ (arrOf st) lo (lo+n)->(n=m∨κ.klt (KK κ (arrOf st) (lo+n)) (KK κ (arrOf st) (lo+n-1)))->Q (none,n) st):wpS (model prog w) A E s (upL lo a m) Q st:=by
 unfold upL;refine wpS_forRange (I:=fun x c st'=>st'=st∧c=(none,x)∧Up κ (arrOf st) lo (lo+x)) ?sp ?fi ⟨rfl,rfl,hs⟩
 case fi =>
  rintro c st' ⟨rfl,rfl,hu⟩;rw[show max a m=m by omega] at hu ⊢;exact h m ham (af _) hu (.inl rfl)
 case sp =>
  rintro x c st' hax hxm ⟨rfl,rfl,hu⟩
  dsimp only
  refine wpS_bind (w_lt hO hB hz (by omega) (by omega) ?_)
  cases hq:κ.blt (KK κ (arrOf st') (lo+x)) (KK κ (arrOf st') (lo+x-1)) with
  | true =>
   simp only [if_true];exact wpS_pure (h x hax (by omega) hu (.inr hq))
  | false =>
   simp only [ck,if_false];exact wpS_pure ⟨rfl,rfl,Sk (r:=lo+x) (by omega) hu hq⟩
end
end SR
set_option autoImplicit false
namespace SR
open PySem PyProof.Rows
def aAk:Bool->Keyed->Array Keyed->Nat->Nat->Nat->StateT SortSt Sem (Option Nat):=sortPriv% PySem.Builtin.gallop
def bq (left:Bool)(key:Keyed)(arr:Array Keyed)(base:Nat)(i:Nat):StateT SortSt Sem (Option Bool):=do
 let x <- elem' arr (base+i)
 if left then lt' x key else return (<- lt' key x).map (!·)
section
variable {prog:Program}{w:World}{A:Around}{E:Value->Shared->Prop}{s:Shared}{z:Array Keyed}{κ:KeyKind}{kd:SortKind}
end
end SR
set_option autoImplicit false
namespace SR
open PySem PyProof.Rows
def Hk (κ:KeyKind)(x:Keyed):Prop:=∃ c,κ.keyOf x.1=some c
section
variable {prog:Program}{w:World}{A:Around}{E:Value->Shared->Prop}{s:Shared}{z:Array Keyed}{κ:KeyKind}{kd:SortKind}
end
end SR
set_option autoImplicit false
namespace SR
open PySem PyProof.Rows
section
variable {prog:Program}{w:World}{A:Around}{E:Value->Shared->Prop}{s:Shared}{κ:KeyKind}{kd:SortKind}
end
end SR
set_option autoImplicit false
namespace SR
open PySem PyProof.Rows
def rt (a:Array Keyed)(n:Nat):List Keyed:=(a.toList.take n).reverse
section
variable {prog:Program}{w:World}{A:Around}{E:Value->Shared->Prop}{s:Shared}{κ:KeyKind}{kd:SortKind}
abbrev Yk:=Option (Array Keyed)×Nat×Nat×Array Keyed×Nat×Nat×Nat
def hi3 (a b o:Array Keyed)(i j g p q:Nat):StateT SortSt Sem (ForInStep Yk):=do
 let x <- elem' a (i-1)
 if (i-1==0)=true then pure (ForInStep.done (some (a.extract 0 (i-1)++b.extract 0 j++(o.push x).reverse),i-1,j,o.push x,g,p,q))
 else if (decide (p<7)&&decide (q<7))=true then pure (ForInStep.done (none,i-1,j,o.push x,g,p,q)) else pure (ForInStep.yield (none,i-1,j,o.push x,g,p,q))
def hi2 (a b o:Array Keyed)(i j g p q:Nat):StateT SortSt Sem (ForInStep Yk):=do
 let x <- elem' b j
 if (j==1)=true then pure (ForInStep.done (some (b.extract 0 j++a.extract 0 i++(o.push x).reverse),i,j,o.push x,g,p,q))
 else do
  let u <- elem' a (i-1)
  let z <- aAk true u b 0 j (j-1)
  match z with
  | some y =>
   if j-y>0 then
    if (y==1)=true then pure (ForInStep.done (some (b.extract 0 y++a.extract 0 i++(o.push x++(b.extract y j).reverse).reverse),i,y,o.push x++(b.extract y j).reverse,g,p,j-y))
    else if (y==0)=true then pure (ForInStep.done (some (a.extract 0 i++b.extract 0 y++(o.push x++(b.extract y j).reverse).reverse),i,y,o.push x++(b.extract y j).reverse,g,p,j-y))
    else hi3 a b (o.push x++(b.extract y j).reverse) i y g p (j-y)
   else hi3 a b (o.push x) i j g p (j-y)
  | _=>pure (ForInStep.done (some (a.extract 0 i++b.extract 0 j++(o.push x).reverse),i,j,o.push x,g,p,q))
end
end SR
set_option autoImplicit false
namespace SR
open PySem PyProof.Rows
def sg (xs:Array Keyed)(l n:Nat):List Keyed:=(xs.toList.drop l).take n
section
variable {κ:KeyKind}{kd:SortKind}
end
end SR
set_option autoImplicit false
namespace SR
open PySem PyProof.Rows
section
variable {prog:Program}{w:World}{A:Around}{E:Value->Shared->Prop}{s:Shared}{z:Array Keyed}{κ:KeyKind}{kd:SortKind}
end
end SR
set_option autoImplicit false
namespace SR
open PySem PyProof.Rows
section
variable {κ:KeyKind}{kd:SortKind}
end
section
variable {prog:Program}{w:World}{A:Around}{E:Value->Shared->Prop}{s:Shared}{z:Array Keyed}{κ:KeyKind}{kd:SortKind}
end
end SR
set_option autoImplicit false
namespace SR
open PySem PyProof.Rows PySem.Spec
section
variable {prog:Program}{w:World}{A:Around}{E:Value->Shared->Prop}{s:Shared}
end
end SR
namespace L2
open PySem PyProof.Rows PySem.Spec
section
variable {X:Cx}
theorem pY {x:V}:∀ {xs:List V} {us:List Value},bV xs us->xs.all iM=true->us.countP (eqU x)=xs.countP (fun y=>eqV y x)
 | _,_,.nil,_=>rfl
 | y::xs,u::us,.cons r t,f=>by
  rw[qk,c7] at f;rw[n8,n8,pY t f.2,Eh r f.1]
theorem Jj:MtR X "list.count" (fun x xs H Q=>∃ (p:Addr) (ys:List V) (a:V),x = .ref p∧xs=[a]∧SqL X.K H p ys∧ys.all iM=true∧iM a=true∧Q (.int ((ys.countP (fun y=>eqV y a):Nat):Int)) H):=by
 intro pins s σ H x xs v us Q I rx rs h;obtain⟨p,ys,a,rfl,rfl,hq,hf,ha,q⟩:=h;cases rx;obtain⟨u,rfl,ru⟩:=eZ rs;obtain⟨its,r,⟨⟨cls,dd,data,sl⟩,n,ho,hc,hdd,hd⟩,hz⟩:=I.list hq;simp only at hc hd;subst hc hd;refine call_meets ko ⟨_,ho,rfl⟩ PySem.F.entry_list_count (PySem.F.args_list_count_2 _ _) (SeqAt.list_countAt p its.toArray n dd sl u (eqU a))
  ⟨ho,fun y hy=>jE ru ha r hf y (by simpa using hy),⟨.int ((ys.countP (fun y=>eqV y a):Nat):Int),H,I.tok _,⟨s.toks,by rw[<- pY r hf]⟩,q⟩⟩
theorem Kx (hc:X.calm=true):eA X (.builtin "sum") (fun xs H Q=>∃ (p:Addr) (ns:List Int),xs=[.ref p]∧SqL X.K H p (ns.map V.int)∧Q (.int ns.sum) H):=by
 intro pins s σ H xs us Q I r h;obtain⟨p,ns,rfl,hq,q⟩:=h;obtain⟨u,rfl,ru⟩:=eZ r;cases ru;obtain⟨its,rv,pl,_⟩:=I.list hq;have hia:=Ew rv;have hnum:=hia.numsOf;obtain⟨ys,hx⟩:=hia.allInts.items;have hl:=pl.isList;rw[hx] at hl;have e:preSum (numAt ys) ys.size=ns.sum:=by
  rw[preSum_eq,cj (by simp)];rw[<- hnum,show its=its.toArray.toList from by simp,hx,nums_intItems]
 exact sum_intListG (I.ok.hd hc) hl fun h' tk t' hk=>⟨.int ns.sum,H,I.kept hk,⟨t',by rw[e]⟩,q⟩
theorem xM (K:ae)(hK:X.K=K):MtR X "list.count" (fun x xs H Q=>∃ (p:Addr) (ys:List V) (a:V),x = .ref p∧xs=[a]∧SqL K H p ys∧ys.all iM=true∧iM a=true∧Q (.int ((ys.countP (fun y=>eqV y a):Nat):Int)) H):=by
 subst hK;exact Jj
theorem Eb (K:ae)(hK:X.K=K){o e:Expr}{es:List Expr}{to:TE}{t:TA}{name:Str}{apos cpos:Pos}{T id:String}{r:V->List V->Hp->VK->Prop}
  (pa:PlainAttrs T) (slot:Slot T name id) (hty:typeOf (.builtin id)=pure (.type "method_descriptor")) (hm:MtR X id r) (ho:PE X o to) (ha:PA X (e::es) t)
  (b1:attributeBase o name X.env (eval o X.env)=eval o X.env:=by rfl)
  (b2:((backTo cpos (starEach (e::es) X.env)).all (fun x=>!x.1)&&(backToKw cpos (keywordEach [] X.env)).all (fun x=>x.1.isSome)&&decide ((e::es).length+([]:List Keyword).length+(if ([]:List Keyword).isEmpty then 0 else 1)<30))=true:=by rfl)
  (b3:(apos.endLine==cpos.line)=true:=by rfl) (b4:starEach (e::es) X.env=(false,eval e X.env)::starEach es X.env:=by rfl) (b5:(backTo cpos (starEach es X.env)).any (·.1)=false:=by rfl) :
  PE X (.Call (.Attribute o name apos) (e::es) [] cpos) (tBM K T r to t):=by
 subst hK;exact qC pa slot hty hm ho ha b1 b2 b3 b4 b5
end
section
variable (P:Program)(w:World)
end
section
variable {P:Program}{w:World}{H H':Hp}{h h':Heap}{a:Addr}{o:HO}
end
section
variable {P:Program}{w:World}{H:Hp}{h h':Heap}{x e:Addr}{o':HO}
end
section
variable {fs fs' ex ex':List Addr}{H H1 H2:Hp}{h h1 h2 h':Heap}{a x e:Addr}{o:HO}
end
section
variable {X:Cx}{pins:List (Addr×Obj)}{σ:List (Option V)}{H H':Hp}{s:Shared}{h':Heap}
end
section
variable {X:Cx}
variable {a b:Expr}{ta tb:TE}{pos:Pos}
variable {tA tB':TT}{rest:List Expr}
end
section
variable {X:Cx}{pins:List (Addr×Obj)}{σ:St}{H:Hp}{s:Shared}{a:Addr}{xs ys:List V}
end
section
variable {X:Cx}{pins:List (Addr×Obj)}{σ:St}{H:Hp}{s:Shared}{E:Value->Shared->Prop}
end
section
variable {X:Cx}{st:Stmt}{rest:List Stmt}{t u:TS}{e:Expr}{te:TE}{pos:Pos}
end
section
variable {X:Cx}{pos:Pos}
end
section
variable {X:Cx}{tg:Expr}
end
section
variable {X:Cx}{a b c:Expr}{ta tb tc:TE}{pos:Pos}
end
section
variable {prog:Program}{w:World}{A:Around}{E:Value->Shared->Prop}{s:Shared}{K:ae}{x dx C f:Addr}{mA:Str->Option Value}{name:Str}{v:Value}
end
section
variable {P:Program}{w:World}{H H':Hp}{h h':Heap}{a C dx:Addr}{fs fs':List (Str×V)}
end
section
variable {X:Cx}{pins:List (Addr×Obj)}{σ:St}{H:Hp}{s:Shared}{a C dx:Addr}{fs:List (Str×V)}{f:Str}{v:V}{A:Around}{E:Value->Shared->Prop}
end
section
variable {X:Cx}{o e value:Expr}{f:Str}{pos pos' tpos:Pos}{ta tv:TE}
end
section
variable {X:Cx}{pins:List (Addr×Obj)}{σ:St}{H:Hp}{s:Shared}{A:Around}{E:Value->Shared->Prop}{Q:Value->Shared->Prop}{c:Value}{b:Bool}
end
section
variable {X:Cx}{e:Expr}{es:List Expr}{te:TE}{t:TA}{pos:Pos}
end
section
variable {X:Cx}{pins:List (Addr×Obj)}{σ:St}{H:Hp}{s s':Shared}
end
section
variable {X:Cx}{CX:CXT}{k:Nat}{f C:Addr}{fd:FuncData}{ps:List Str}{sp:Sp}{dvs:List V}{ds:List Value}{E:XK}{x m:Str}{p pos apos:Pos}{e o:Expr}{es:List Expr}{ta:TE}{t:TA}
end
section
variable {X:Cx}{CX:CXT}{k:Nat}{f C:Addr}{fd:FuncData}{ps ks:List Str}{sp:Sp}{E:XK}{x m:Str}{p pos apos kpos:Pos}{e o:Expr}{es:List Expr}{kws:List Keyword}{te ta:TE}{t tk:TA}{nm:Option Str}
variable {g:List Value->List Value->List Value}{gV:List V->List V->List V}
end
section
variable {X:Cx}{x:Str}{p pos:Pos}{e:Expr}{es:List Expr}{t:TA}{id T:String}{r:List V->Hp->VK->Prop}
end
section
variable {κ:Type}[DecidableEq κ]
def eC (kvs:List (κ×V))(k:κ):Option V:=(kvs.find? fun kv=>decide (kv.1=k)).map (·.2)
def eV (kvs:List (κ×V))(k:κ)(v:V):List (κ×V) :=
 if (kvs.any fun kv=>decide (kv.1=k))=true then kvs.map (fun kv=>if kv.1=k then (kv.1,v) else kv) else kvs++[(k,v)]
def rP (kvs:List (κ×V))(k:κ):List (κ×V):=kvs.filter fun kv=>decide (kv.1≠k)
theorem fX {p:κ×V}{r:List (κ×V)}{k:κ}(e:p.1=k):eC (p::r) k=some p.2:=by simp[eC,ik,e]
theorem fF {p:κ×V}{r:List (κ×V)}{k:κ}(e:¬ p.1=k):eC (p::r) k=eC r k:=by simp[eC,ik,e]
theorem sI (k:κ):∀ kvs:List (κ×V),(kvs.any fun kv=>decide (kv.1=k))=(eC kvs k).isSome
 | []=>rfl
 | p::r=>by
  rw[lu];by_cases e:p.1=k
  ·simp only [fX e,decide_eq_true e,Bool.true_or,Option.isSome_some]
  ·rw[fF e,decide_eq_false e,Bool.false_or];exact sI k r
theorem iI (kvs:List (κ×V))(k:κ)(v:V):(eV kvs k v).length<=kvs.length+1:=by
 unfold eV;split
 ·rw[aR];omega
 ·rw[ak,aq,jn];omega
theorem Qe {kvs:List (κ×V)}{k:κ}(v:V)(h:eC kvs k=none):eV kvs k v=kvs++[(k,v)]:=by
 unfold eV;rw[sI,h];exact if_neg (by decide)
theorem jG.isSome_eq {o:Option V}{u:Option Value}(r:jG o u):o.isSome=u.isSome:=by
 cases o with
 | none=>cases u with
  | none=>rfl
  | some _=>exact (show False from r).elim
 | some _=>cases u with
  | none=>exact (show False from r).elim
  | some _=>rfl
theorem KV.val {kvs:List (κ×V)}{vs:List (κ×Value)}(r:KV kvs vs)(k:κ):jG (eC kvs k) (valueAt vs k):=by
 unfold KV at r
 induction r with
 | nil=>exact True.intro
 | @cons p q ps qs h t ih =>
  obtain⟨h1,h2⟩:=h;by_cases e:p.1=k
  ·have e':q.1=k:=h1.symm.trans e
   have b:valueAt (q::qs) k=some q.2:=by simp[valueAt,ik,e']
   rw[fX e,b];exact h2
  ·have e':¬ q.1=k:=fun z=>e (h1.trans z)
   have b:valueAt (q::qs) k=valueAt qs k:=by simp[valueAt,ik,e']
   rw[fF e,b];exact ih
theorem KV.any {kvs:List (κ×V)}{vs:List (κ×Value)}(r:KV kvs vs)(k:κ):(kvs.any fun kv=>decide (kv.1=k))=vs.any fun kv=>decide (kv.1=k):=by
 unfold KV at r
 induction r with
 | nil=>rfl
 | cons h t ih=>rw[lu,lu,ih,h.1]
theorem KV.repl {kvs:List (κ×V)}{vs:List (κ×Value)}(r:KV kvs vs)(k:κ){y:V}{u:Value}(ry:bE y u) :
  KV (kvs.map fun kv=>if kv.1=k then (kv.1,y) else kv) (vs.map fun kv=>if kv.1=k then (kv.1,u) else kv):=by
 unfold KV at r ⊢
 induction r with
 | nil=>exact .nil
 | @cons p q ps qs h t ih =>
  rw[ap,ap];refine .cons ?_ ih;obtain⟨h1,h2⟩:=h;by_cases e:p.1=k
  ·rw[if_pos e,if_pos (h1.symm.trans e)];exact⟨h1,ry⟩
  ·rw[if_neg e,if_neg (fun z=>e (h1.trans z))];exact⟨h1,h2⟩
theorem KV.put {kvs:List (κ×V)}{vs:List (κ×Value)}(r:KV kvs vs)(k:κ){y:V}{u:Value}(ry:bE y u):KV (eV kvs k y) (stored vs k u):=by
 unfold eV stored;rw[r.any k];by_cases e:(vs.any fun kv=>decide (kv.1=k))=true
 ·rw[if_pos e,if_pos e];exact r.repl k ry
 ·rw[if_neg e,if_neg e];exact Paired.snoc r ⟨rfl,ry⟩
theorem KV.drop {kvs:List (κ×V)}{vs:List (κ×Value)}(r:KV kvs vs)(k:κ):KV (rP kvs k) (without vs k):=by
 unfold KV at r ⊢;unfold rP without
 induction r with
 | nil=>exact .nil
 | @cons p q ps qs h t ih =>
  obtain⟨h1,h2⟩:=h;rw[cz,cz];by_cases e:p.1=k
  ·have a:¬ decide (p.1≠k)=true:=by simp[e]
   have b:¬ decide (q.1≠k)=true:=by simp[h1.symm.trans e]
   rw[if_neg a,if_neg b];exact ih
  ·have e':¬ q.1=k:=fun z=>e (h1.trans z)
   have a:decide (p.1≠k)=true:=by simp[e]
   have b:decide (q.1≠k)=true:=by simp[e']
   rw[if_pos a,if_pos b];exact .cons ⟨h1,h2⟩ ih
theorem KV.keys {kvs:List (κ×V)}{vs:List (κ×Value)}(r:KV kvs vs):kvs.map (·.1)=vs.map (·.1):=by
 unfold KV at r
 induction r with
 | nil=>rfl
 | cons h t ih=>rw[ap,ap,ih,h.1]
theorem KV.length {kvs:List (κ×V)}{vs:List (κ×Value)}(r:KV kvs vs):kvs.length=vs.length:=Paired.length r
theorem Lv (kvs:List (κ×V))(k:κ):(rP kvs k).length<=kvs.length:=cq _ _
end
theorem oA {P:Program}{w:World}{k:Key}{u:Value}(r:bE (kV k) u):(bD P w).is k u=true:=by
 cases k with
 | inl i=>obtain⟨t,e⟩:=(show ∃ t,u=Value.int i t from r);subst e;exact Ce P w i t
 | inr x=>obtain⟨t,e⟩:=(show ∃ t,u=Value.str x t from r);subst e;exact Bx P w x t
theorem xL {P:Program}{w:World}:∀ {ks:List Key} {us:List Value},bV (ks.map kV) us->ItemsAre (bD P w) ks us
 | [],_,r=>by rw[ip] at r;cases r;exact .nil
 | k::ks,_,r=>by
  rw[ap] at r
  cases r with
  | cons h t=>exact .cons (oA h) (xL t)
abbrev KT (H:Hp):List (List Key×V)->List (List Key×Addr×Value)->Prop:=Paired fun p q=>p.1=q.1∧H q.2.1=some (.tup (p.1.map kV))∧bE p.2 q.2.2
theorem KT.val {H:Hp}{kvs:List (List Key×V)}{xs:List (List Key×Addr×Value)}(r:KT H kvs xs)(k:List Key):jG (eC kvs k) ((atKey xs k).map (·.2)):=by
 induction r with
 | nil=>exact True.intro
 | @cons p q ps qs h t ih =>
  obtain⟨h1,_,h2⟩:=h;by_cases e:p.1=k
  ·have e':q.1=k:=h1.symm.trans e
   have b:atKey (q::qs) k=some q.2:=by simp[atKey,ik,e']
   rw[fX e,b];exact h2
  ·have e':¬ q.1=k:=fun z=>e (h1.trans z)
   have b:atKey (q::qs) k=atKey qs k:=by simp[atKey,ik,e']
   rw[fF e,b];exact ih
theorem KT.repl {H:Hp}{kvs:List (List Key×V)}{xs:List (List Key×Addr×Value)}(r:KT H kvs xs)(k:List Key){y:V}{u:Value}(ry:bE y u) :
  KT H (kvs.map fun kv=>if kv.1=k then (kv.1,y) else kv) (xs.map (putAt k u)):=by
 induction r with
 | nil=>exact .nil
 | @cons p q ps qs h t ih =>
  rw[ap,ap];refine .cons ?_ ih;obtain⟨h1,h2,h3⟩:=h;unfold putAt;by_cases e:p.1=k
  ·rw[if_pos e,if_pos (h1.symm.trans e)];exact⟨h1,h2,ry⟩
  ·rw[if_neg e,if_neg (fun z=>e (h1.trans z))];exact⟨h1,h2,h3⟩
theorem KT.put {H:Hp}{kvs:List (List Key×V)}{xs:List (List Key×Addr×Value)}(r:KT H kvs xs)(k:List Key){b:Addr}{y:V}{u:Value}(hb:H b=some (.tup (k.map kV)))(ry:bE y u) :
  KT H (eV kvs k y) (storedH xs k b u):=by
 have e:(kvs.any fun kv=>decide (kv.1=k))=(atKey xs k).isSome:=by
  rw[sI,(r.val k).isSome_eq,ng]
 unfold eV storedH;rw[e];by_cases q:(atKey xs k).isSome=true
 ·rw[if_pos q,if_pos q];exact r.repl k ry
 ·rw[if_neg q,if_neg q];exact Paired.snoc r ⟨rfl,hb,ry⟩
theorem KT.keeps {H H':Hp}{kvs:List (List Key×V)}{xs:List (List Key×Addr×Value)}(r:KT H kvs xs)(ht:∀ b ys,H b=some (.tup ys)->H' b=some (.tup ys)):KT H' kvs xs :=
 Paired.mapP r fun _ _ z=>⟨z.1,ht _ _ z.2.1,z.2.2⟩
section
variable {P:Program}{w:World}{H:Hp}{h:Heap}{a:Addr}
theorem Uy {u:HO}(ok:HOk P w H h)(e:Rd H a u):cK P w H h a u:=e.ok ok
theorem tP {kvs:List (Key×V)}(ok:HOk P w H h)(e:Rd H a (.dK kvs)):kvs.length<=sizeLine∧(a==sysModules)=false∧∃ vs,KV kvs vs∧h.DictOf (bD P w) a vs :=
 show cK P w H h a (.dK kvs) from Uy ok e
theorem kQ {kvs:List (Key×V)}(ok:HOk P w H h)(e:H a=some (.dK kvs)):kvs.length<=sizeLine∧(a==sysModules)=false∧∃ vs,KV kvs vs∧h.DictOf (bD P w) a vs:=tP ok (.inl e)
theorem tH {ks:List Key}(ok:HOk P w H h)(e:H a=some (.tup (ks.map kV))):(tupleKind (bD P w)).is h ks a:=by
 obtain⟨_,its,r,o,h1,h2,n,h3⟩:=(show cK P w H h a (.tup (ks.map kV)) from ok a _ e);exact⟨o,its.toArray,n,h1,h2,h3,by simpa using xL r⟩
theorem wU {kvs:List (List Key×V)}(ok:HOk P w H h)(e:Rd H a (.dT kvs)):kvs.length<=sizeLine∧(a==sysModules)=false ∧
  ∃ xs,KT H kvs xs∧h.DictOfH (tupleKind (bD P w)) a xs:=by
 obtain⟨z,y,xs,r,o,es,ep,h1,h2,h3,h4,h5⟩:=(show cK P w H h a (.dT kvs) from Uy ok e);refine⟨z,y,xs,r,o,es,ep,h1,h2,h3,h4,fun x hx=>?_,h5⟩;have all:∀ {l:List (List Key×V)} {m:List (List Key×Addr×Value)},KT H l m->∀ x∈m,(tupleKind (bD P w)).is h x.1 x.2.1:=by
  intro l m q
  induction q with
  | nil=>intro x hx;exact nomatch hx
  | @cons p q ps qs hq t ih =>
   intro x hx;rcases ar.mp hx with e | hx
   ·subst e
    exact tH ok (by rw[<- hq.1];exact hq.2.1)
   ·exact ih x hx
 exact all r x hx
theorem Ye {kvs:List (List Key×V)}(ok:HOk P w H h)(e:H a=some (.dT kvs)):kvs.length<=sizeLine∧(a==sysModules)=false ∧
 ∃ xs,KT H kvs xs∧h.DictOfH (tupleKind (bD P w)) a xs:=wU ok (.inl e)
end
def lS (H:Hp)(a:Addr)(y:V)(r:Option V):Prop :=
 (∃ kvs k,Rd H a (.dK kvs)∧y=kV k∧r=eC kvs k)∨∃ kvs k b,Rd H a (.dT kvs)∧y = .ref b∧H b=some (.tup (k.map kV))∧r=eC kvs k
def rV (H:Hp)(a:Addr)(y v:V)(H':Hp):Prop :=
 (∃ kvs k,H a=some (.dK kvs)∧y=kV k∧kvs.length<sizeLine∧H'=upd H a (.dK (eV kvs k v))) ∨
 ∃ kvs k b,H a=some (.dT kvs)∧y = .ref b∧H b=some (.tup (k.map kV))∧kvs.length<sizeLine∧H'=upd H a (.dT (eV kvs k v))
theorem lS.k {H:Hp}{a:Addr}{kvs:List (Key×V)}{k:Key}(e:H a=some (.dK kvs)):lS H a (kV k) (eC kvs k):=.inl ⟨kvs,k,.inl e,rfl,rfl⟩
theorem rV.k {H:Hp}{a:Addr}{kvs:List (Key×V)}{k:Key}{v:V}(e:H a=some (.dK kvs))(hl:kvs.length<sizeLine):rV H a (kV k) v (upd H a (.dK (eV kvs k v))):=.inl ⟨kvs,k,e,rfl,hl,rfl⟩
section
variable {X:Cx}{pins:List (Addr×Obj)}{σ:St}{H:Hp}{s:Shared}{a:Addr}{y v:V}{u r:Value}{o:Option V}{A:Around}{E:Value->Shared->Prop}
theorem Inv.big (I:Inv X pins σ H s):sysModules<s.heap.objs.size:=by
 have h:mainGlobals<s.heap.objs.size:=(I.mod.glob.keeps I.bk).lt;exact rh (by decide) h
theorem Jf {Q:Value->Shared->Prop}(hu:A.units+1<cLine)(I:Inv X pins σ H s)(g:lS H a y (some v))(ry:bE y u)(h:∀ w' s',Inv X pins σ H s'->bE v w'->Q w' s') :
  wpAny (model X.prog X.w) A (getItem (.ref a) u) Q E s:=by
 rcases g with ⟨kvs,k,e,ey,l⟩ | ⟨kvs,k,b,e,ey,eb,l⟩
 ·subst ey
  obtain⟨z,hd,vs,rel,dd⟩:=tP I.hok e;obtain⟨w',hw,rw'⟩:=jG.some_of (v:=v) (o:=valueAt vs k) (by rw[l];exact rel.val k);exact wpAny_getItem_of (oA ry) dd.mapOf hw (h w' _ (I.tok _) rw')
 ·subst ey
  cases (show u=Value.ref b from ry);obtain⟨z,hd,xs,rel,dd⟩:=wU I.hok e;obtain⟨w',hw,rw'⟩:=jG.some_of (v:=v) (o:=(atKey xs k).map (·.2)) (by rw[l];exact rel.val k);obtain⟨p,hp,hp2⟩:=ba.mp hw;refine wpAny_getItem_heap (tupleKind_room_in1 hu) (tH I.hok eb) dd hp ?_;rw[hp2];exact h w' _ (I.tok _) rw'
theorem aAW {Q:Value->Shared->Prop}(hu:A.units+1<cLine)(I:Inv X pins σ H s)(g:lS H a y o)(ry:bE y u)(h:∀ s',Inv X pins σ H s'->Q (.bool o.isSome) s') :
  wpAny (model X.prog X.w) A (compareOp .In u (.ref a)) Q E s:=by
 rcases g with ⟨kvs,k,e,ey,l⟩ | ⟨kvs,k,b,e,ey,eb,l⟩
 ·subst ey
  obtain⟨z,hd,vs,rel,dd⟩:=tP I.hok e;refine wpAny_in_of (oA ry) hd dd.mapOf ?_;rw[<- (rel.val k).isSome_eq,<- l];exact h _ (I.tok _)
 ·subst ey
  cases (show u=Value.ref b from ry);obtain⟨z,hd,xs,rel,dd⟩:=wU I.hok e;refine wpAny_in_heap (tupleKind_room_in1 hu) (tH I.hok eb) hd dd ?_;have q:=(rel.val k).isSome_eq;rw[ng] at q;rw[<- q,<- l];exact h _ (I.tok _)
theorem Sd {Q:Value->Shared->Prop}(hu:A.units+1<cLine)(I:Inv X pins σ H s)(g:lS H a y o)(ry:bE y u)(h:∀ s',Inv X pins σ H s'->Q (.bool (!o.isSome)) s') :
  wpAny (model X.prog X.w) A (compareOp .NotIn u (.ref a)) Q E s:=by
 rcases g with ⟨kvs,k,e,ey,l⟩ | ⟨kvs,k,b,e,ey,eb,l⟩
 ·subst ey
  obtain⟨z,hd,vs,rel,dd⟩:=tP I.hok e;refine wpAny_notIn_of (oA ry) hd dd.mapOf ?_;rw[<- (rel.val k).isSome_eq,<- l];exact h _ (I.tok _)
 ·subst ey
  cases (show u=Value.ref b from ry);obtain⟨z,hd,xs,rel,dd⟩:=wU I.hok e;refine wpAny_notIn_heap (tupleKind_room_in1 hu) (tH I.hok eb) hd dd ?_;have q:=(rel.val k).isSome_eq;rw[ng] at q;rw[<- q,<- l];exact h _ (I.tok _)
theorem nL {h':Heap}{t':Nat}{ob:HO}(I:Inv X pins σ H s)(mu:Mut (H a))(hs:Heap.SameBut a s.heap h')(he:∃ q,h'.get? a=some q)(new:cK X.prog X.w (upd H a ob) h' a ob) :
  Inv X pins σ (upd H a ob) { s with heap:=h',toks:=t' } :=
 I.write (x:=a) (e:=a) mu (.inl rfl) (fun b q hb z=>(hs.2 b hb).trans z) he new
theorem yX {P:Program}{w:World}{H':Hp}{h':Heap}{kvs:List (Key×V)}{vs:List (Key×Value)}(z:kvs.length<=sizeLine)(hd:(a==sysModules)=false)(rel:KV kvs vs)(dd:h'.DictOf (bD P w) a vs) :
 cK P w H' h' a (.dK kvs):=⟨z,hd,vs,rel,dd⟩
theorem Jr {H':Hp}{Q:Unit->Shared->Prop}(hu:A.units+1<cLine)(I:Inv X pins σ H s)(g:rV H a y v H')(ry:bE y u)(rv:bE v r)(h:∀ s',Inv X pins σ H' s'->Q () s') :
  wpAny (model X.prog X.w) A (setItem (.ref a) u r) Q E s:=by
 rcases g with ⟨kvs,k,e,ey,l,eH⟩ | ⟨kvs,k,b,e,ey,eb,l,eH⟩
 ·subst ey eH
  obtain⟨z,hd,vs,rel,dd⟩:=kQ I.hok e;have hz:vs.length<=sizeLine:=by rw[<- rel.length];exact z
  have hl:(eV kvs k v).length<=sizeLine:=by have:=iI kvs k v;omega
  refine wpAny_setItem_pairs (hsz:=hz) (oA ry) dd fun h' dd' hs=>h _ ?_
  have he:∃ q,h'.get? a=some q:=let ⟨q,_,_,hq,_⟩:=dd';⟨q,hq⟩
  exact nL I (by rw[e];exact True.intro) hs he (yX hl hd (rel.put k rv) dd')
 ·subst ey eH
  cases (show u=Value.ref b from ry);obtain⟨z,hd,xs,rel,dd⟩:=Ye I.hok e;have hz:xs.length<=sizeLine:=by rw[<- Paired.length rel];exact z
  have hl:(eV kvs k v).length<=sizeLine:=by have:=iI kvs k v;omega
  refine wpAny_setItem_heap (hsz:=hz) (tupleKind_room_in1 hu) (tH I.hok eb) dd fun h' dd' hs=>h _ ?_
  obtain⟨q,es,ep,hq,h2,h3,h4,_,h5⟩:=dd';refine nL I (by rw[e];exact True.intro) hs ⟨q,hq⟩ ⟨hl,hd,_,(rel.put k eb rv).keeps fun c ys ec=>?_,q,es,ep,hq,h2,h3,h4,h5⟩;rw[aM (Yt ec e (fun z=>nomatch z))];exact ec
end
section
variable {X:Cx}{pins:List (Addr×Obj)}{σ:St}{H:Hp}{s:Shared}{a:Addr}{kvs:List (Key×V)}{k:Key}{u:Value}{A:Around}{E:Value->Shared->Prop}
theorem Zb {v:V}{more:List Value}{Q:Value->Shared->Prop}(I:Inv X pins σ H s)(e:H a=some (.dK kvs))(ry:bE (kV k) u)(l:eC kvs k=some v)(hm:more=[]∨∃ x,more=[x])
  (h:∀ w' s',Inv X pins σ (upd H a (.dK (rP kvs k))) s'->bE v w'->Q w' s'):wpAny (model X.prog X.w) A (call (.builtin "dict.pop") (.ref a::u::more)) Q E s:=by
 obtain⟨z,hd,vs,rel,dd⟩:=kQ I.hok e;obtain⟨w',hw,rw'⟩:=jG.some_of (v:=v) (o:=valueAt vs k) (by rw[<- l];exact rel.val k);have hp:(keyPart u).isSome=true:=by
  cases k with
  | inl i=>obtain⟨t,q⟩:=(show ∃ t,u=Value.int i t from ry);subst q;rfl
  | inr x=>obtain⟨t,q⟩:=(show ∃ t,u=Value.str x t from ry);subst q;rfl
 have ha:argsOk "dict.pop" ⟨.ref a::u::more,[]⟩:=by
  rcases hm with q | ⟨x,q⟩
  ·subst q;exact PySem.F.args_dict_pop_2 _ _
  ·subst q;exact oe _ _ _
 refine call_meetsIn lg dd.typeIs ox ha (meets_dict_pop_there (bD X.prog X.w) a (oA ry) more hm hp)
  ⟨vs,w',dd,by rw[<- rel.length];exact z,hw,fun h' dd' hs=>h w' _ ?_ rw'⟩
 have he:∃ q,h'.get? a=some q:=let ⟨q,_,_,hq,_⟩:=dd';⟨q,hq⟩
 exact nL I (by rw[e];exact True.intro) hs he (yX (av (Lv kvs k) z) hd (rel.drop k) dd')
theorem Vy {r:Value}{Q:Value->Shared->Prop}(I:Inv X pins σ H s)(e:H a=some (.dK kvs))(ry:bE (kV k) u)(l:eC kvs k=none)(h:∀ s',Inv X pins σ H s'->Q r s') :
  wpAny (model X.prog X.w) A (call (.builtin "dict.pop") [.ref a,u,r]) Q E s:=by
 obtain⟨z,hd,vs,rel,dd⟩:=kQ I.hok e;have hn:valueAt vs k=none:=jG.none_of (by rw[<- l];exact rel.val k);have hp:(keyPart u).isSome=true:=by
  cases k with
  | inl i=>obtain⟨t,q⟩:=(show ∃ t,u=Value.int i t from ry);subst q;rfl
  | inr x=>obtain⟨t,q⟩:=(show ∃ t,u=Value.str x t from ry);subst q;rfl
 exact call_meetsIn lg dd.typeIs ox (oe _ _ _) (meets_dict_pop_default (bD X.prog X.w) a (oA ry) hd hp r) ⟨vs,dd,hn,h _ (I.tok _)⟩
theorem Yd {Q:Value->Shared->Prop}(I:Inv X pins σ H s)(e:Rd H a (.dK kvs))(h:∀ t s',Inv X pins σ H s'->Q (.int kvs.length t) s'):wpAny (model X.prog X.w) A (call (.builtin "len") [.ref a]) Q E s:=by
 obtain⟨z,hd,vs,rel,dd⟩:=tP I.hok e;refine call_len_dict hd dd (by rw[<- rel.length];rw[sizeLine_eq] at z;omega) ?_;rw[<- rel.length];exact h _ _ (I.tok _)
end
def aAF (i:Expr):Prop:=∀ ov iv,subscripted i false ov iv=operate [ov,iv] (getItem ov iv)
theorem Sm {prog:Program}{w:World}{A:Around}{E:Value->Shared->Prop}{s:Shared}{env:Env}{value slice:Expr}{pos:Pos}{T id:String}{Q:Value->Shared->Prop}
  (hl:typeLookup (.type T) "__getitem__" = pure (some (.builtin id))) (hs:aAF slice)
  (h:wpAny (model prog w) A (eval value env) (fun o s₁=>wpAny (model prog w) A (eval slice env) (fun i s₂=>s₂.TypeIs o T∧wpAny (model prog w) A (getItem o i) Q E s₂) E s₁) E s) :
  wpAny (model prog w) A (eval (.Subscript value slice pos) env) Q E s:=by
 refine Subscript_ (wpAny_mono h (fun o s₁ h₁=>wpAny_mono h₁ (fun i s₂ h₂=>?_) fun _ _ x=>x) fun _ _ x=>x);obtain⟨hT,h₂⟩:=h₂;unfold subscriptTail;refine wpAny_bind ?_;rw[getitemInPython_of_ne hT.not_modules];refine wpAny_bind (wpAny_specialOf hT hl ?_);have fin:wpAny (model prog w) A (subscripted slice false o i) (fun r s₃=>wpAny (model prog w) A (letTemporaryGo value o r >>= fun _=>pure r) Q E s₃) E s₂:=by
  rw[hs o i];exact wpAny_operating (wpAny_mono h₂ (fun r s₃ h₃=>wpAny_bind (wpAny_letTemporaryGo (wpAny_pure h₃))) fun _ _ x=>x)
 first
  | exact wpAny_pure (wpAny_bind fin)
  | exact wpAny_bind (wpAny_pure (wpAny_bind fin))
  | exact wpAny_bind fin
theorem Bc {X:Cx}{pins:List (Addr×Obj)}{σ:St}{H:Hp}{s:Shared}{a:Addr}{y:V}{o:Option V}(I:Inv X pins σ H s)(g:lS H a y o):s.TypeIs (.ref a) "dict" := by
 rcases g with ⟨kvs,k,e,_,_⟩ | ⟨kvs,k,b,e,_,_,_⟩
 ·obtain⟨_,_,vs,_,dd⟩:=tP I.hok e
  exact dd.typeIs
 ·obtain⟨_,_,xs,_,dd⟩:=wU I.hok e
  exact dd.typeIs
def aAC (td ty:TE):TE:=fun σ H Q=>td σ H fun x H1=>ty σ H1 fun y H2=>∃ a v,x = .ref a∧lS H2 a y (some v)∧Q v H2
def aAR (ty td:TE):TE:=fun σ H Q=>ty σ H fun y H1=>td σ H1 fun x H2=>∃ a o,x = .ref a∧lS H2 a y o∧Q (.bl o.isSome) H2
def Sc (ty td:TE):TE:=fun σ H Q=>ty σ H fun y H1=>td σ H1 fun x H2=>∃ a o,x = .ref a∧lS H2 a y o∧Q (.bl (!o.isSome)) H2
def Za (td ty tv:TE):TS:=fun D σ H=>tv σ H fun v H1=>td σ H1 fun x H2=>ty σ H2 fun y H3=>∃ a H4,x = .ref a∧rV H3 a y v H4∧D.nx σ H4
section
variable {X:Cx}{o i e value:Expr}{pos pos' tpos:Pos}{td ty tv:TE}
theorem lF (hu:X.A.units+1<cLine)(ho:PE X o td)(hi:PE X i ty)(hs:aAF i):PE X (.Subscript o i pos) (aAC td ty):=by
 intro pins s σ H Q I h;refine Sm PySem.F.slot_dict_getitem.lookup hs (thn (ho pins s σ H _ I h) fun u s1 ⟨x,H1,I1,rx,q1⟩=>thn (hi pins s1 σ H1 _ I1 q1) fun iv s2 ⟨y,H2,I2,ry,a,v,ex,g,q2⟩=>?_);subst ex;obtain rfl:u=Value.ref a:=rx;exact⟨Bc I2 g,Jf hu I2 g ry fun w' s3 I3 rw'=>⟨v,H2,I3,rw',q2⟩⟩
theorem Qq (hu:X.A.units+1<cLine)(hi:PE X i ty)(ho:PE X o td):PC X .In i o (aAR ty td):=by
 intro pins s σ H Q I h;refine thn (hi pins s σ H _ I h) fun iv s1 ⟨y,H1,I1,ry,q1⟩=>thn (ho pins s1 σ H1 _ I1 q1) fun u s2 ⟨x,H2,I2,rx,a,ov,ex,g,q2⟩=>?_
 subst ex;obtain rfl:u=Value.ref a:=rx;exact aAW hu I2 g ry fun s3 I3=>⟨.bl ov.isSome,H2,I3,rfl,q2⟩
theorem Jk (hu:X.A.units+1<cLine)(hi:PE X i ty)(ho:PE X o td):PC X .NotIn i o (Sc ty td):=by
 intro pins s σ H Q I h;refine thn (hi pins s σ H _ I h) fun iv s1 ⟨y,H1,I1,ry,q1⟩=>thn (ho pins s1 σ H1 _ I1 q1) fun u s2 ⟨x,H2,I2,rx,a,ov,ex,g,q2⟩=>?_
 subst ex;obtain rfl:u=Value.ref a:=rx;exact Sd hu I2 g ry fun s3 I3=>⟨.bl (!ov.isSome),H2,I3,rfl,q2⟩
theorem rG (hu:X.A.units+1<cLine)(ho:PE X o td)(hi:PE X i ty)(hv:PE X value tv)(hs:swapsWith value (some (.Subscript o i pos')) pos.line X.env=pure false) :
  PS X (.Assign [.Subscript o i pos'] value pos) (Za td ty tv):=by
 intro pins s σ H D I h;refine wpAny_Assign_Subscript (thn (hv pins s σ H _ I h) fun r s1 ⟨v,H1,I1,rv,q1⟩=>thn (ho pins s1 σ H1 _ I1 q1) fun u s2 ⟨x,H2,I2,rx,q2⟩=>thn (hi pins s2 σ H2 _ I2 q2) fun iv s3 ⟨y,H3,I3,ry,a,H4,ex,g,q3⟩=>?_) hs;subst ex;obtain rfl:u=Value.ref a:=rx;exact Jr hu I3 g ry rv fun s4 I4=>⟨σ,H4,I4,q3⟩
end
theorem Ak {P:Program}{w:World}{H:Hp}(h:Heap)(hb:sysModules<h.objs.size):cK P w H (h.push { cls:=.type "dict",data:=.dict #[] }) h.objs.size (.dK []) :=
 ⟨b6 _,beq_eq_false_iff_ne.mpr (Ne.symm (bb hb)),[],.nil,Heap.DictOf.new h⟩
def Vr:TE:=fun _ H Q=>∀ p,H p=none->Q (.ref p) (upd H p (.dK []))
section
variable {X:Cx}{pos:Pos}
theorem Ag:PE X (.Dict [] [] pos) Vr:=fun pins s σ H Q I h =>
 wpAny_Dict_empty ⟨.ref s.heap.objs.size,_,I.laid (a:=s.heap.objs.size) (o:=.dK []) (t':=s.toks) (fun _ _ q=>Heap.get?_push_of_some _ q) (af _) (Ak s.heap I.big),rfl,h _ (I.hok.fresh (af _))⟩
end
def zR:List (TE×TE)->St->Hp->(List (V×V)->Hp->Prop)->Prop
 | [],_,H,Q=>Q [] H
 | (tk,tv)::r,σ,H,Q=>tk σ H fun x H1=>tv σ H1 fun y H2=>zR r σ H2 fun ps H3=>Q ((x,y)::ps) H3
abbrev VV:List (V×V)->List (Value×Value)->Prop:=Paired fun p q=>bE p.1 q.1∧bE p.2 q.2
def PPs (X:Cx)(pos:Pos)(keys:List (Option Expr))(values:List Expr)(trs:List (TE×TE)):Prop :=
 ∀ (pins:List (Addr×Obj)) (s:Shared) (σ:St) (H:Hp) (Q:List (V×V)->Hp->Prop),Inv X pins σ H s->zR trs σ H Q ->
  wpAny (model X.prog X.w) X.A (evalPairs (pairTrees keys values X.env pos)) (fun vs s'=>∃ ps H',Inv X pins σ H' s'∧VV ps vs∧Q ps H') X.xe s
theorem Rz {X:Cx}{pos:Pos}:PPs X pos [] [] []:=fun pins s σ H Q I h=>pairTrees_nil_walk ⟨[],H,I,.nil,h⟩
theorem Rf {X:Cx}{pos:Pos}{k v:Expr}{ks:List (Option Expr)}{vs:List Expr}{tk tv:TE}{trs:List (TE×TE)}(hk:PE X k tk)(hv:PE X v tv)(hr:PPs X pos ks vs trs) :
  PPs X pos (some k::ks) (v::vs) ((tk,tv)::trs):=fun pins s σ H Q I h =>
 pairTrees_cons_walk (thn (hk pins s σ H _ I h) fun u s1 ⟨x,H1,I1,rx,q1⟩=>thn (hv pins s1 σ H1 _ I1 q1) fun w2 s2 ⟨y,H2,I2,ry,q2⟩ =>
  thn (hr pins s2 σ H2 _ I2 q2) fun ws s3 ⟨ps,H3,I3,rel,q3⟩=>⟨(x,y)::ps,H3,I3,.cons ⟨rx,ry⟩ rel,q3⟩)
def oV (kvs more:List (Key×V)):List (Key×V):=more.foldl (fun acc kv=>eV acc kv.1 kv.2) kvs
theorem KV.merge:∀ {more:List (Key×V)} {rs:List (Key×Value)} {kvs:List (Key×V)} {vs:List (Key×Value)},KV more rs->KV kvs vs->KV (oV kvs more) (merged vs rs):=by
 intro more rs kvs vs r;unfold KV at r
 induction r generalizing kvs vs with
 | nil=>intro q;exact q
 | @cons p q ps qs h t ih =>
  intro r0;have e:KV (eV kvs p.1 p.2) (stored vs q.1 q.2):=by
   have:=r0.put p.1 h.2
   rw[<- h.1];exact this
  exact ih e
theorem lZ:∀ (more kvs:List (Key×V)),(oV kvs more).length<=kvs.length+more.length
 | [],kvs=>by show kvs.length<=kvs.length+0;omega
 | p::r,kvs=>by
  have h1:=lZ r (eV kvs p.1 p.2);have h2:=iI kvs p.1 p.2;show (oV (eV kvs p.1 p.2) r).length<=_;rw[aq];omega
theorem tO {P:Program}{w:World}:∀ {kvs:List (Key×V)} {ws:List (Value×Value)},VV (kvs.map fun kv=>(kV kv.1,kv.2)) ws->∃ rs,Carries (bD P w) ws rs∧KV kvs rs
 | [],_,r=>by rw[ip] at r;cases r;exact⟨[],True.intro,.nil⟩
 | p::kvs,_,r=>by
  rw[ap] at r
  cases r with
  | @cons a b as bs h t =>
   obtain⟨rs,c,q⟩:=tO (P:=P) (w:=w) t;obtain⟨b1,b2⟩:=b;exact⟨(p.1,b2)::rs,⟨oA h.1,rfl,c⟩,.cons ⟨rfl,h.2⟩ q⟩
def Yr (trs:List (TE×TE)):TE:=fun σ H Q=>∀ p,H p=none->zR trs σ (upd H p (.dK [])) fun ps H2=>H2 p=some (.dK [])∧∃ kvs:List (Key×V),ps=kvs.map (fun kv=>(kV kv.1,kv.2))∧kvs.length<=15∧Q (.ref p) (upd H2 p (.dK (oV [] kvs)))
theorem Ta {X:Cx}{pos:Pos}{keys:List (Option Expr)}{values:List Expr}{trs:List (TE×TE)}(h:PPs X pos keys values trs)(hall:keys.all (·.isSome)=true)(hl:keys.length=values.length)(h0:keys≠[])
  (h15:keys.length<=15):PE X (.Dict keys values pos) (Yr trs):=by
 intro pins s σ H Q I q;have hn:=I.hok.fresh (af s.heap.objs.size);have I1:=I.laid (a:=s.heap.objs.size) (o:=.dK []) (h':=s.heap.push { cls:=.type "dict",data:=.dict #[] }) (t':=s.toks) (fun _ _ q=>Heap.get?_push_of_some _ q) (af _) (Ak s.heap I.big)
 refine wpAny_Dict_walk (knd:=bD X.prog X.w) hall hl h0 h15 (thn (h pins _ σ _ _ I1 (q _ hn)) fun ws s2 ⟨ps,H2,I2,rel,e,kvs,ep,lk,q2⟩=>?_);subst ep;obtain⟨rs,c,rk⟩:=tO (P:=X.prog) (w:=X.w) rel;obtain⟨z,hd,vs0,r0,dd⟩:=kQ I2.hok e;cases r0;refine⟨rs,c,dd,fun h' dd' hs=>⟨.ref s.heap.objs.size,_,?_,rfl,q2⟩⟩;have hz:(oV [] kvs).length<=sizeLine:=by
  have h1:=lZ kvs [];rw[jn] at h1;rw[sizeLine_eq];omega
 have he:∃ q,h'.get? s.heap.objs.size=some q:=let ⟨q,_,_,hq,_⟩:=dd';⟨q,hq⟩
 exact nL I2 (by rw[e];exact True.intro) hs he (yX hz hd (rk.merge .nil) dd')
structure M1 (X:Cx)(o:Expr)(m:Str)(apos:Pos)(e:Expr)(cpos:Pos):Prop where
 base:attributeBase o m X.env (eval o X.env)=eval o X.env
 few:((backTo cpos (starEach [e] X.env)).all (fun x=>!x.1)&&(backToKw cpos (keywordEach [] X.env)).all (fun x=>x.1.isSome)
  && decide (([e]:List Expr).length+([]:List Keyword).length+(if ([]:List Keyword).isEmpty then 0 else 1)<30))=true
 line:(apos.endLine==cpos.line)=true
 trees:backTo cpos (starEach [e] X.env)=[(false,eval e X.env)]
structure M2 (X:Cx)(o:Expr)(m:Str)(apos:Pos)(e f:Expr)(cpos:Pos):Prop where
 base:attributeBase o m X.env (eval o X.env)=eval o X.env
 few:((backTo cpos (starEach [e,f] X.env)).all (fun x=>!x.1)&&(backToKw cpos (keywordEach [] X.env)).all (fun x=>x.1.isSome)
  && decide (([e,f]:List Expr).length+([]:List Keyword).length+(if ([]:List Keyword).isEmpty then 0 else 1)<30))=true
 line:(apos.endLine==cpos.line)=true
 trees:backTo cpos (starEach [e,f] X.env)=[(false,eval e X.env),(false,eval f X.env)]
def IsD (H:Hp)(a:Addr):Prop:=(∃ kvs,Rd H a (.dK kvs))∨∃ kvs,Rd H a (.dT kvs)
theorem Op {X:Cx}{pins:List (Addr×Obj)}{σ:St}{H:Hp}{s:Shared}{a:Addr}(I:Inv X pins σ H s)(d:IsD H a) :
  s.TypeIs (.ref a) "dict" ∧ (∀ b,Value.ref a = .ref b->∃ ob,s.heap.get? b=some ob∧ob.dict=none)∧(a==sysModules)=false:=by
 rcases d with ⟨kvs,e⟩ | ⟨kvs,e⟩
 ·obtain⟨_,hd,vs,_,dd⟩:=tP I.hok e
  refine⟨dd.typeIs,fun b q=>?_,hd⟩;cases q;obtain⟨ob,_,_,h1,h2,_⟩:=dd;exact⟨ob,h1,h2.2.1⟩
 ·obtain⟨_,hd,xs,_,dd⟩:=wU I.hok e
  refine⟨dd.typeIs,fun b q=>?_,hd⟩;cases q;obtain⟨ob,_,_,h1,h2,_⟩:=dd;exact⟨ob,h1,h2.2.1⟩
section
variable {X:Cx}{pins:List (Addr×Obj)}{σ:St}{H:Hp}{s:Shared}{a:Addr}{y d:V}{u r:Value}{o:Option V}{A:Around}{E:Value->Shared->Prop}
end
def Wi (td ty tx:TE):TE:=fun σ H Q=>td σ H fun x H1=>∃ a,x = .ref a∧IsD H1 a∧ty σ H1 fun y H2=>tx σ H2 fun z H3=>∃ kvs k,H3 a=some (.dK kvs)∧y=kV k ∧
 (∀ v,eC kvs k=some v->Q v (upd H3 a (.dK (rP kvs k))))∧(eC kvs k=none->Q z H3)
section
variable {X:Cx}{o e f:Expr}{apos cpos:Pos}{td ty tx:TE}
theorem Pi (ho:PE X o td)(he:PE X e ty)(hf:PE X f tx)(m:M2 X o "pop" apos e f cpos):PE X (.Call (.Attribute o "pop" apos) [e,f] [] cpos) (Wi td ty tx):=by
 intro pins s σ H Q I h;refine wpAny_Call_method m.base m.few m.line kq lg PySem.F.type_dict_pop (thn (ho pins s σ H _ I h) fun u s1 ⟨x,H1,I1,rx,a,ex,d,q1⟩=>?_);subst ex;obtain rfl:u=Value.ref a:=rx;obtain⟨t1,t2,_⟩:=Op I1 d;refine⟨t1,t2,?_⟩;rw[m.trees];refine Calls.callWith_builtin rfl (Calls.evalArgs_plain (Calls.spliced_cons (thn (he pins s1 σ H1 _ I1 q1) fun iv s2 ⟨y,H2,I2,ry,q2⟩ =>
  Calls.spliced_cons (thn (hf pins s2 σ H2 _ I2 q2) fun fv s3 ⟨z,H3,I3,rz,kvs,k,ea,ey,q3,q4⟩=>Calls.spliced_nil ?_))))
 subst ey
 cases l:eC kvs k with
 | some v=>exact Zb I3 ea ry l (.inr ⟨fv,rfl⟩) fun w' s4 I4 rw'=>⟨v,_,I4,rw',q3 v l⟩
 | none=>exact Vy I3 ea ry l fun s4 I4=>⟨z,H3,I4,rz,q4 l⟩
end
section
variable {X:Cx}{pins:List (Addr×Obj)}{σ:St}{H:Hp}{s:Shared}{a:Addr}{kvs:List (Key×V)}{A:Around}{E:Value->Shared->Prop}
end
section
variable {X:Cx}{pins:List (Addr×Obj)}{σ:St}{H:Hp}{s:Shared}{a:Addr}{y:V}{u:Value}{A:Around}{E:Value->Shared->Prop}
end
end L2
namespace Att
open PySem PySem.W PySem.Calls PyProof.Rows
section
variable {prog:Program}{w:World}{A:Around}{E:Value->Shared->Prop}{s:Shared}{K:Frag}
end
end Att
namespace L2
open PySem PySem.Spec PyProof.Rows
section
variable {P:Program}{w:World}{K:ae}{mg:Str->Option Value}{base:Heap}
end
section
variable {X:Cx}
theorem vX:eA X (.builtin "len") (fun xs H Q=>∃ a kvs,xs=[V.ref a]∧H a=some (.dK kvs)∧Q (.int kvs.length) H):=by
 intro pins s σ H xs us Q I r h;obtain⟨a,kvs,rfl,ha,q⟩:=h;obtain⟨u,rfl,ru⟩:=eZ r;cases ru;exact Yd I (.inl ha) fun t s' I'=>⟨.int kvs.length,H,I',⟨t,rfl⟩,q⟩
end
section
variable {κ:Type}[DecidableEq κ]
end
namespace RT
def obj (x:Str)(t:Tok)(i:Int):Obj:={ cls:=.type "reversed",data:=.fields #[.str x t,rawInt i] }
def Is (h:Heap)(a:Addr)(x:Str)(t:Tok)(i:Int):Prop:=∃ o,h.get? a=some o∧o.cls = .type "reversed" ∧ o.data = .fields #[.str x t,rawInt i]
section
variable {prog:Program}{w:World}{A:Around}{E:Value->Shared->Prop}{s:Shared}
end
end RT
section
variable {X:Cx}
end
structure Cam (P:Program)(w:World)(K:ae)(mg:Str->Option Value)(base:Heap)(CX:CXT)(x:Str)(C:Addr)(k:Nat)(ps:List Str)(sp:Sp):Prop where
 ex:∃ (f:Addr) (fd:FuncData),bW P w K mg base CX k f fd ps sp∧Mk K C f∧mg x=some (.ref C)∧kR K fd ps []
section
variable {X:Cx}
theorem Ww {CX:CXT}{x:Str}{C:Addr}{j k:Nat}{ps:List Str}{sp:Sp}{E:XK}{e:Expr}{es:List Expr}{t:TA}{p pos:Pos}(c:Cam X.prog X.w X.K X.mg X.base CX x C j ps sp)(hr:fY k X.A)(hx:kW CX X E)(ha:PA X (e::es) t)
  (hjk:j+1<=k:=by decide) (hg:Gl X x:=by rfl) (b1:(x==("__debug__" : Str))=false:=by decide) (b2:starEach (e::es) X.env=(false,eval e X.env)::starEach es X.env:=by rfl) (b3:(backTo pos (starEach es X.env)).any (·.1)=false:=by rfl) :
  PE X (.Call (.Name x p) (e::es) [] pos) (Um C sp [] E t):=by
 obtain⟨f,fd,F,M,hm,hb⟩:=c.ex;exact Ti M F (hr.mono hjk) hg hm hb .nil hx ha b1 b2 b3
end
namespace SE
section
variable {prog:Program}{w:World}{A:Around}{E:Value->Shared->Prop}{s:Shared}
end
end SE
section
variable {X:Cx}
end
end L2
namespace ST
open PySem PySem.SetTable
def it (M:Nat):Nat->Nat->Nat
 | 0,i=>i
 | s+1,i=>it M s ((i*5+1) % M)
theorem zH (M:Nat):∀ s t i,it M (s+t) i=it M t (it M s i)
 | 0,t,i=>by rw[jl];rfl
 | s+1,t,i=>by rw[qv];exact zH M s t _
def Gc (M:Nat):Nat->Nat->List Nat
 | 0,_=>[]
 | s+1,i=>i::Gc M s ((i*5+1) % M)
theorem Ao {M:Nat}:∀ {n i j:Nat},j∈Gc M n i->∃ s,s<n∧it M s i=j
 | n+1,i,j,h=>by
  rw[Gc,ar] at h;rcases h with h | h
  ·exact⟨0,by omega,h.symm⟩
  ·obtain⟨s,h1,h2⟩:=Ao h
   exact⟨s+1,by omega,h2⟩
def full (M:Nat):Bool:=it M M 0==0&&(cp M).all fun j=>(Gc M M 0).contains j
theorem Kc {M:Nat}(h:full M=true){a j:Nat}(ha:a<M)(hj:j<M):∃ s,s<M∧it M s a=j:=by
 rw[full,c7,beq_iff_eq,ft] at h;have hit:∀ x,x<M->∃ s,s<M∧it M s 0=x:=fun x hx=>Ao (by have:=h.2 x (cr.mpr hx);simpa using this)
 obtain⟨s0,h0,e0⟩:=hit a ha;obtain⟨s1,h1,e1⟩:=hit j hj;rcases gt s1 s0 with z | z
 ·refine⟨M-s0+s1,by omega,?_⟩
  have w:it M (M-s0) a=0:=by rw[<- e0,<- zH,show s0+(M-s0)=M by omega,h.1]
  rw[zH,w,e1]
 ·refine⟨s1-s0,by omega,?_⟩
  rw[<- e0,<- zH,show s0+(s1-s0)=s1 by omega,e1]
def vN (M:Nat):Prop:=M=8∨M=16∨M=32∨M=64∨M=128∨M=256∨M=512
theorem vN.full {M:Nat}(h:vN M):full M=true:=by
 rcases h with rfl | rfl | rfl | rfl | rfl | rfl | rfl <;> decide +kernel
theorem vN.pos {M:Nat}(h:vN M):8<=M:=by
 rcases h with rfl | rfl | rfl | rfl | rfl | rfl | rfl <;> decide
def lp (mask:Nat):Nat->Nat->Nat->Nat×Nat
 | 0,i,p=>(i,p)
 | s+1,i,p=>lp mask s (leap mask i p).1 (leap mask i p).2
theorem Lp (mask:Nat):∀ s t i p,lp mask (s+t) i p=lp mask t (lp mask s i p).1 (lp mask s i p).2
 | 0,t,i,p=>by rw[jl];rfl
 | s+1,t,i,p=>by rw[qv];exact Lp mask s t _ _
theorem Zi (mask:Nat):∀ s i p,(lp mask s i p).2=p/32 ^ s
 | 0,i,p=>by rw[Nat.pow_zero,Nat.div_one];rfl
 | s+1,i,p=>by
  show (lp mask s _ (p/32)).2=_;rw[Zi mask s,Nat.div_div_eq_div_mul,j5,dh]
theorem Ul (mask:Nat):∀ s i,(lp mask s i 0).1=it (mask+1) s i
 | 0,i=>rfl
 | s+1,i=>by
  show (lp mask s ((i*5+1+0/32) % (mask+1)) (0/32)).1=_;rw[Nat.zero_div,k8];exact Ul mask s _
theorem Ux (mask:Nat):∀ s i p,i<mask+1->(lp mask s i p).1<mask+1
 | 0,i,p,h=>h
 | s+1,i,p,h=>Ux mask s _ _ (jx _ (ou _))
theorem Lj (mask i:Nat):i<=runEnd mask i:=by
 unfold runEnd;split <;> omega
theorem wN {mask:Nat}{owner:Array (Option Nat)}:∀ {fuel i p:Nat},layClean.free mask owner fuel i p=none->∀ s,s<fuel->(owner.getD (lp mask s i p).1 (some 0)).isNone=false
 | fuel+1,i,p,h,s,hs=>by
  rw[layClean.free] at h;split at h
  ·cases h
  ·rename_i hf
   cases s with
   | zero =>
    have:=qw.mp hf 0 (cr.mpr (by have:=Lj mask i;omega))
    rw[k8] at this;exact lc.mpr this
   | succ s=>exact wN h s (by omega)
theorem wY {mask:Nat}{owner:Array (Option Nat)}:∀ {fuel i p j:Nat},layClean.free mask owner fuel i p=some j->(owner.getD j (some 0)).isNone=true
 | fuel+1,i,p,j,h=>by
  rw[layClean.free] at h;split at h
  ·rename_i k hf
   cases h
   have:=ua hf
   exact this
  ·exact wY h
theorem Ro {mask:Nat}{owner:Array (Option Nat)}{i p j:Nat}(hM:vN (mask+1))(hi:i<mask+1)(hp:p<2 ^ 64)(hj:j<mask+1)(he:(owner.getD j (some 0)).isNone=true) :
  ∃ k,layClean.free mask owner (turns mask) i p=some k∧(owner.getD k (some 0)).isNone=true:=by
 cases hf:layClean.free mask owner (turns mask) i p with
 | some k=>exact⟨k,rfl,wY hf⟩
 | none =>
  exfalso;have h13:(lp mask 13 i p).2=0:=by
   rw[Zi];exact Nat.div_eq_of_lt (rh hp (by decide))
  obtain⟨s,hs,e⟩:=Kc hM.full (Ux mask 13 i p hi) hj;have z:=wN hf (13+s) (by unfold turns;omega);rw[Lp,h13,Ul,e,he] at z;cases z
theorem tL {α β:Type}{f g:α->Option β}:∀ l:List α,(∀ i∈l,f i=g i)->l.filterMap f=l.filterMap g
 | [],_=>rfl
 | x::l,h=>by
  have ih:=tL l fun i hi=>h i (aj _ hi)
  rw[gx,gx,h x (al ..),ih]
def vals (N:Nat)(f:Nat->Option Nat):List Nat:=(cp N).filterMap f
theorem Oh {f g:Nat->Option Nat}{j v:Nat}(hf:f j=none)(hg:g j=some v)(he:∀ i,i≠j->g i=f i):∀ l:List Nat,l.Nodup->j∈l->(l.filterMap g).Perm (v::l.filterMap f)
 | x::l,nd,hm=>by
  rw[bv] at nd;by_cases e:x=j
  ·subst e
   rw[iy hg,kf hf]
   have:l.filterMap g=l.filterMap f:=tL l fun i hi=>he i fun z=>nd.1 (z▸hi)
   rw[this]
  ·have hm':j∈l:=by
    rcases ar.mp hm with z | z
    ·exact absurd z.symm e
    ·exact z
   have ih:=Oh hf hg he l nd.2 hm';have hx:=he x e
   cases h:f x with
   | none=>rw[kf (hx.trans h),kf h];exact ih
   | some y =>
    rw[iy (hx.trans h),iy h];exact (ih.cons y).trans (uf ..)
theorem Fs {f:Nat->Option Nat}:∀ l:List Nat,(∀ i∈l,(f i).isNone=false)->(l.filterMap f).length=l.length
 | [],_=>rfl
 | x::l,h=>by
  have hx:=h x (al ..)
  cases e:f x with
  | none=>rw[e] at hx;cases hx
  | some y=>rw[iy e,aq,aq,Fs l fun i hi=>h i (aj _ hi)]
def zB (mask:Nat)(owner:Array (Option Nat))(k:Nat):Prop:=owner.size=mask+1∧(vals (mask+1) fun j=>owner.getD j none).Perm (cp k)
theorem getD_some {owner:Array (Option Nat)}{j:Nat}(h:j<owner.size):owner.getD j (some 0)=owner.getD j none:=by
 simp[ug,h]
theorem Tf {mask:Nat}(hM:vN (mask+1)){owner:Array (Option Nat)}{k:Nat}(g:zB mask owner k)(hk:k<mask+1)(h:Int) :
  ∃ j,layClean.free mask owner (turns mask) (bits h % (mask+1)) (bits h)=some j∧zB mask (owner.setIfInBounds j (some k)) (k+1):=by
 obtain⟨hs,hp⟩:=g;obtain⟨j0,hj0,he0⟩:∃ j,j<mask+1∧(owner.getD j (some 0)).isNone=true:=by
  apply a5;intro hno
  have:=Fs (f:=fun j=>owner.getD j none) (cp (mask+1)) fun i hi=>by
   have hi':=cr.mp hi;have e:=getD_some (owner:=owner) (j:=i) (by omega)
   cases z:(owner.getD i none).isNone with
   | false=>rfl
   | true=>exact absurd ⟨i,hi',by rw[e];exact z⟩ hno
  rw[dw] at this;have h2:=hp.length_eq;rw[dw] at h2;unfold vals at h2;omega
 obtain⟨j,e1,e2⟩:=Ro hM (i:=bits h % (mask+1)) (p:=bits h) (jx _ (ou _)) (by unfold bits;omega) hj0 he0;have hj:j<owner.size:=by
  rcases gt j owner.size with z | z
  ·exact z
  ·rw[ug,dif_neg (by omega)] at e2
   cases e2
 refine⟨j,e1,by rw[Array.size_setIfInBounds];exact hs,?_⟩;have hf:(fun i=>owner.getD i none) j=none:=by
  show owner.getD j none=none;rw[getD_some hj] at e2
  cases z:owner.getD j none with
  | none=>rfl
  | some y=>rw[z] at e2;cases e2
 have hg:(fun i=>(owner.setIfInBounds j (some k)).getD i none) j=some k:=by
  show (owner.setIfInBounds j (some k)).getD j none=some k;simp[ug,hj]
 have q:=Oh hf hg (fun i hi=>by
  show (owner.setIfInBounds j (some k)).getD i none=owner.getD i none;rw[gb,gb,Array.getElem?_setIfInBounds_ne (Ne.symm hi)]) (cp (mask+1)) List.nodup_range (cr.mpr (by omega))
 refine q.trans ?_;rw[show cp (k+1)=cp k++[k] from tz];exact (hp.cons k).trans (List.perm_append_singleton ..).symm
theorem Nv {mask:Nat}(hM:vN (mask+1)):∀ (hs:List Int) (owner:Array (Option Nat)) (k:Nat),zB mask owner k->k+hs.length<=mask+1 ->
  ∃ o',(hs.foldl (fun acc h=>do
   let (owner,k) <- acc
   let j <- layClean.free mask owner (turns mask) (bits h % (mask+1)) (bits h)
   pure (owner.setIfInBounds j (some k),k+1)) (some (owner,k)))=some (o',k+hs.length)∧zB mask o' (k+hs.length)
 | [],owner,k,g,_=>⟨owner,rfl,g⟩
 | h::hs,owner,k,g,hk=>by
  rw[aq] at hk;obtain⟨j,e,g'⟩:=Tf hM g (by omega) h;obtain⟨o',e',g''⟩:=Nv hM hs _ _ g' (by omega);refine⟨o',?_,by rw[aq,show k+(hs.length+1)=k+1+hs.length by omega];exact g''⟩;rw[pd,aq,show k+(hs.length+1)=k+1+hs.length by omega,<- e']
  congr 1
  show (layClean.free mask owner (turns mask) (bits h % (mask+1)) (bits h)).bind _=_;rw[e];rfl
theorem Ol (mask:Nat):zB mask (ub (mask+1) none) 0:=by
 refine⟨Array.size_replicate,?_⟩
 have:vals (mask+1) (fun j=>(ub (mask+1) (none:Option Nat)).getD j none)=[]:=by
  unfold vals;refine List.filterMap_eq_nil_iff.mpr fun i _=>?_
  rw[gb,Array.getElem?_replicate];split <;> rfl
 rw[this];exact ic _
theorem Ij {mask finger moves:Nat}{led plain:Bool}{hashes:Array Int}(hM:vN (mask+1))(hn:hashes.size<=mask) :
  ∃ (t:SetTable) (order:Array Nat),laid mask finger moves led plain hashes=some (t,order)∧order.toList.Perm (cp hashes.size)∧t.place.size=hashes.size∧t.mask=mask∧t.dummies = #[]∧t.led=led∧t.plain=plain:=by
 obtain⟨o,e,g⟩:=Nv hM hashes.toList _ 0 (Ol mask) (by rw[bt];omega);have hc:layClean mask hashes=some o:=by
  unfold layClean;rw[<- Array.foldl_toList];refine (congrArg (uh (·.1)) e).trans ?_;rfl
 have em:((cp (mask+1)).filterMap fun j=>(o.getD j none).map (j,·)).map (·.2)=vals (mask+1) fun j=>o.getD j none:=by
  rw[List.map_filterMap];unfold vals;refine tL _ fun i _=>?_
  cases o.getD i none <;> rfl
 have gp:(vals (mask+1) fun j=>o.getD j none).Perm (cp hashes.size):=by
  have:=g.2
  rw[jl,bt] at this;exact this
 refine⟨_,_,by unfold laid;rw[hc];rfl,by rw[em];exact gp,?_,rfl,rfl,rfl,rfl⟩;show (((cp (mask+1)).filterMap fun j=>(o.getD j none).map (j,·)).map (·.1)).toArray.size=_;have hl:=congrArg gi em;rw[aR] at hl;rw[az,aR,hl,gp.length_eq,dw]
end ST
namespace SS
open PySem PyProof.Rows
def byT (w:World):Bool:=w.params.followText "set-order"
def mP:Value->Str
 | .str x _=>x
 | _=>Str.empty
def El (w:World)(e:Int×Value):Prop:=e.1=hashStr w (mP e.2)∧∃ t,e.2 = .str (mP e.2) t
def Els (w:World)(es:List (Int×Value))(ms:List Str):Prop:=(∀ e∈es,El w e)∧(es.map fun e=>mP e.2).Perm ms
theorem Els.perm {w:World}{es es':List (Int×Value)}{ms:List Str}(h:Els w es ms)(p:es'.Perm es):Els w es' ms:=⟨fun e he=>h.1 e (p.mem_iff.mp he),(p.map _).trans h.2⟩
theorem Els.of {w:World}{prog:Program}{es:List (Int×Value)}{ms:List Str}(h:Els w es ms):ElemsOf (fj prog w) es:=fun e he=>by
 obtain⟨h1,t,h2⟩:=h.1 e he;refine⟨⟨mP e.2,?_,h1⟩,?_⟩
 ·rw[h2]
  exact strKind_is prog w _ t
 ·rw[h2]
  rfl
theorem Els.len {w:World}{es:List (Int×Value)}{ms:List Str}(h:Els w es ms):es.length=ms.length:=by
 have:=h.2.length_eq
 rwa [aR] at this
theorem Els.has {w:World}{prog:Program}{es:List (Int×Value)}{ms:List Str}(h:Els w es ms)(k:Str):k∈ms↔∃ e∈es,(fj prog w).is k e.2=true:=by
 rw[<- h.2.mem_iff,ao];constructor
 ·rintro⟨e,he,rfl⟩
  obtain⟨_,t,h2⟩:=h.1 e he;refine⟨e,he,?_⟩
  conv=>lhs;arg 3;rw[h2]
  exact strKind_is prog w _ t
 ·rintro⟨e,he,hk⟩
  obtain⟨t,ht⟩:=Value.isStrOf_shape hk;exact⟨e,he,by rw[ht];rfl⟩
def Is (w:World)(h:Heap)(a:Addr)(ms:List Str):Prop :=
 ∃ o es ep t,h.get? a=some o∧o.ExactSet∧o.data = .set es ep t∧Els w es.toList ms∧ms.Nodup∧es.size<scanBound∧t.fits es.size=true∧(byT w=true∨t.led=true)∧(es.size=0∨t.plain=false)
theorem Is.at {w:World}{h h':Heap}{a:Addr}{ms:List Str}(x:Is w h a ms)(e:∀ o,h.get? a=some o->h'.get? a=some o):Is w h' a ms:=let ⟨o,es,ep,t,ho,r⟩:=x;⟨o,es,ep,t,e o ho,r⟩
theorem Is.there {w:World}{h:Heap}{a:Addr}{ms:List Str}(x:Is w h a ms):∃ o,h.get? a=some o:=let ⟨o,_,_,_,ho,_⟩:=x;⟨o,ho⟩
theorem Dm (t:SetTable)(es:Array (Int×Value))(h:Int)(x:Value):(layNew t es h x).2.1.led=t.led:=by
 unfold layNew;split
 ·rename_i slot wd _
  show ((t.put slot).1.orStandIn _).led=t.led;unfold SetTable.orStandIn;split <;> rfl
 ·rfl
theorem Fc {mask finger moves:Nat}{led plain:Bool}{hs:Array Int}{t:SetTable}{o:Array Nat}(h:SetTable.laid mask finger moves led plain hs=some (t,o)):t.led=led∧t.plain=plain:=by
 unfold SetTable.laid at h
 cases hc:SetTable.layClean mask hs with
 | none=>rw[hc] at h;cases h
 | some ow =>
  rw[hc] at h;have h':=a8 h;rw[<- (Prod.mk.inj h').1];exact⟨rfl,rfl⟩
theorem sO (t:SetTable)(es:Array (Int×Value))(n:Nat)(hp:t.plain=false):(relayAll t es n).2.1.led=t.led∧(relayAll t es n).2.1.plain=false:=by
 unfold relayAll;split
 ·rename_i t' order e
  obtain⟨h1,h2⟩:=Fc e
  dsimp only
  split
  ·exact⟨h1,h2.trans hp⟩
  ·exact⟨rfl,rfl⟩
 ·exact⟨rfl,rfl⟩
section
variable {prog:Program}{w:World}{A:Around}{E:Value->Shared->Prop}{s:Shared}
theorem Is.store (prog:Program){a:Addr}{o:Obj}{es es':Array (Int×Value)}{ep:Nat}{t t':SetTable}{h:Heap}{ms:List Str}(ho:h.get? a=some o)(hex:o.ExactSet)(hd:o.data = .set es ep t)(hel:Els w es'.toList ms)(hnd:ms.Nodup)(hb:es'.size<scanBound)(hf:t'.fits es'.size=true)
  (hl:byT w=true∨t'.led=true) (hp:es'.size=0∨t'.plain=false):(h.update a (Obj.putSet es' t')).get? a=some { o with data:=.set es' (ep+1) t' }∧Is w (h.update a (Obj.putSet es' t')) a ms:=by
 have hg:=(SetOf_store (knd:=fj prog w) (S':=fun k=>decide (k∈ms)) ho hex hd hel.of (fun k=>by rw[decide_eq_true_iff];exact hel.has k) hb hf).1;exact⟨hg,_,es',ep+1,t',hg,hex,rfl,hel,hnd,hb,hf,hl,hp⟩
theorem Ob {a : Addr} {ms : List Str} {k : Str} {tk : Tok} {Q : Bool → Shared → Prop} (hS : Is w s.heap a ms) (hroom : ms.length + 1 < scanBound)
    (h : ∀ h' ms', Heap.SameBut a s.heap h' → Is w h' a ms' → (∀ x, x ∈ ms' ↔ x ∈ ms ∨ x = k) → ms'.length ≤ ms.length + 1 → Q (!decide (k ∈ ms)) { s with heap := h' }) :
    wpAny (model prog w) A (setAddHashed a (.str k tk) (hashStr w k)) Q E s := by
  obtain⟨o, es, ep, t, ho, hex, hd, hel, hnd, hb, hf, hl, hp⟩ := hS;have hn : es.size = ms.length := by rw[← hel.len, bt]
  have hkey : (fj prog w).is k (.str k tk) = true := strKind_is prog w k tk;unfold setAddHashed setAddHashedIn;refine wpAny_holding (wpAny_bind (wpAny_setState_of ho hd hf ?_))
  dsimp only
  rw[byScan_of (knd := fj prog w) (x := .str k tk) rfl hb hel.of];simp only [↓reduceIte];unfold setAddByScan;refine wpAny_bind (wpAny_bind (wpAny_rule (wpAny_bind (wpAny_setScan_of (knd := fj prog w) hkey ho hd hf hel.of ?_))))
  cases hr : List.findIdx? (fun e => (fj prog w).is k e.2) es.toList with
  | some j =>
    dsimp only
    obtain⟨hj, hpj, _⟩ := List.findIdx?_eq_some_iff_getElem.mp hr;have hm : k ∈ ms := (hel.has (prog := prog) k).mpr ⟨es.toList[j], cy hj, hpj⟩;refine wpAny_pure (wpAny_pure ?_);have z := h s.heap ms (Heap.SameBut.refl a s.heap) ⟨o, es, ep, t, ho, hex, hd, hel, hnd, hb, hf, hl, hp⟩ (fun x => ⟨.inl, fun q => q.elim id fun e => e ▸ hm⟩) (by omega);rw[decide_eq_true hm] at z;exact z
  | none =>
    dsimp only
    have hm : ¬ k ∈ ms := fun z => by
      obtain⟨e, he, q⟩ := (hel.has (prog := prog) k).mp z;have := List.findIdx?_eq_none_iff.mp hr e he;rw[q] at this;cases this
    have gw : ∀ (b : Bool) {s₁ : Shared} {Q' : Unit → Shared → Prop}, Q' () s₁ → wpAny (model prog w) A (match b with | true => rule "set.scan.the-table-gave-way" | false => pure ()) Q' E s₁ := fun b s₁ Q' hq => by
      cases b
      · exact wpAny_pure hq
      · exact wpAny_rule hq
    have hperm := layNew_perm t es (hashStr w k) (.str k tk);have hfits := layNew_fits t es (hashStr w k) (.str k tk);have hled := Dm t es (hashStr w k) (.str k tk);generalize hL : layNew t es (hashStr w k) (.str k tk) = L at hperm hfits hled ⊢;obtain⟨es1, t1, wasDummy, gave⟩ := L
    dsimp only at hperm hfits hled ⊢
    rw[ro] at hperm;have hel1 : Els w es1.toList (ms ++ [k]) := by
      refine Els.perm ⟨fun e he => ?_, ?_⟩ hperm
      · rcases bu.mp he with z | z
        · exact hel.1 e z
        · have e' : e = (hashStr w k, .str k tk) := by simpa using z
          rw[e'];exact⟨rfl, tk, rfl⟩
      · rw[bc]
        exact hel.2.append_right _
    have hnd1 : (ms ++ [k]).Nodup := d9.mpr ⟨hnd, by simp, fun x hx y hy e => hm (by have : y = k := (by simpa using hy); rw[← this, ← e]; exact hx)⟩;have hsz1 : es1.size = ms.length + 1 := by rw[← bt, hel1.len, ak, b7]
    have hb1 : es1.size < scanBound := by omega
    have fin : ∀ h', Heap.SameBut a s.heap h' → Is w h' a (ms ++ [k]) → Q true { s with heap := h' } := fun h' sb x => by
      have z := h h' (ms ++ [k]) sb x (fun y => by rw[bu, a7]) (by rw[ak, b7]; omega);rw[decide_eq_false hm] at z;exact z
    have tail : ∀ t2 : SetTable, t2.fits es1.size = true → (byT w = true ∨ t2.led = true) → t2.plain = false → wpAny (model prog w) A (do
        storeSet a es1 t2
        if (!wasDummy && t2.tooFull) = true then do
            (match (relayAll t2 es1 (SetTable.grown es1.size)).2.2 with | true => rule "set.scan.the-table-gave-way" | false => pure ())
            storeSet a (relayAll t2 es1 (SetTable.grown es1.size)).1 (relayAll t2 es1 (SetTable.grown es1.size)).2.1
            pure (some true)
          else pure (some true)) (fun r s' => wpAny (model prog w) A (match r with | some added => pure added | none => setAddHashedIn a (.str k tk) (hashStr w k) 99999) Q E s') E s := fun t2 hf2 hl2 hp2 => by
      refine wpAny_bind (wpAny_storeSet_of ho hd ?_ (fits_of_scanBound hb1));obtain⟨ho1, hS1⟩ := Is.store prog ho hex hd hel1 hnd1 hb1 hf2 hl2 (.inr hp2);have sb1 := Heap.SameBut.update s.heap a (Obj.putSet es1 t2);split
      · have q1 := relayAll_perm t2 es1 (SetTable.grown es1.size)
        have q2 := relayAll_fits t2 es1 (SetTable.grown es1.size);have q3 := sO t2 es1 (SetTable.grown es1.size) hp2;generalize relayAll t2 es1 (SetTable.grown es1.size) = Rl at q1 q2 q3 ⊢;obtain⟨es2, t3, g2⟩ := Rl
        dsimp only at q1 q2 q3 ⊢
        have hel2 := hel1.perm q1;have hsz : es2.size = es1.size := by rw[← bt, q1.length_eq, bt]
        have hb2 : es2.size < scanBound := by omega
        refine wpAny_bind (gw _ (wpAny_bind (wpAny_storeSet_of ho1 rfl ?_ (fits_of_scanBound hb2))));obtain⟨_, hS2⟩ := Is.store prog ho1 hex rfl hel2 hnd1 hb2 q2 (hl2.imp id fun z => q3.1.trans z) (.inr q3.2);exact wpAny_pure (wpAny_pure (fin _ (sb1.trans (Heap.SameBut.update _ a _)) hS2))
      · exact wpAny_pure (wpAny_pure (fin _ sb1 hS1))
    refine wpAny_bind (gw _ ?_);have hl1 : byT w = true ∨ t1.led = true := hl.imp id fun z => hled.trans z
    split
    · refine wpAny_bind (wpAny_pure ?_)
      simp only [ck, ↓reduceIte];exact tail { t1 with plain := false } (SetTable.fits_plain_off hfits) hl1 rfl
    · rename_i hpl
      refine wpAny_bind (wpAny_pure ?_);simp only [↓reduceIte];exact tail t1 hfits hl1 (lc.mpr hpl)
end
theorem uE:∀ n,n<=256->ST.vN (SetTable.sizeAbove n)∧n<SetTable.sizeAbove n:=by
 have key:∀ n,n<257->(SetTable.sizeAbove n=8∨SetTable.sizeAbove n=16∨SetTable.sizeAbove n=32∨SetTable.sizeAbove n=64∨SetTable.sizeAbove n=128∨SetTable.sizeAbove n=256∨SetTable.sizeAbove n=512)∧n<SetTable.sizeAbove n:=by decide +kernel
 exact fun n h=>key n (by omega)
theorem nX {es:Array (Int×Value)}{order:Array Nat}(h:order.toList.Perm (cp es.size)):(order.filterMap (es[·]?)).toList.Perm es.toList:=by
 rw[Array.toList_filterMap];exact (h.filterMap _).trans (by rw[filterMap_getElem?_range])
theorem mK {α:Type}:∀ (l:List α) (i:Nat) (h:i<l.length),(l[i]::l.eraseIdx i).Perm l
 | x::l,0,_=>ic _
 | x::l,i+1,h=>by
  have h':i<l.length:=by simpa using h
  have ih:=mK l i h';exact (uf x (l[i]'h') (l.eraseIdx i)).trans (ih.cons x)
theorem wV {α:Type}(next:Nat->Nat)(xs:Array α):(pickOrder next xs).toList.Perm xs.toList:=by
 have key:∀ (fuel k:Nat) (left:List α) (out:Array α),left.length=fuel->(pickOrder.go next fuel k left out).toList.Perm (out.toList++left):=by
  intro fuel
  induction fuel with
  | zero =>
   intro k left out hl;obtain rfl:=bh.mp hl;rw[pickOrder.go,df]
  | succ fuel ih =>
   intro k left out hl;have hlt:next k % left.length<left.length:=jx _ (by omega);rw[pickOrder.go,aa hlt]
   dsimp only
   refine (ih _ _ _ (by rw[m4 hlt];omega)).trans ?_;rw[ro,c6];refine jr _ ?_;exact mK left _ hlt
 have z:=key xs.size 0 xs.toList #[] (bt)
 simpa [pickOrder] using z
section
variable {prog:Program}{w:World}{A:Around}{E:Value->Shared->Prop}{s:Shared}
theorem fM {Q:Bool->Shared->Prop}(h:Q (byT w) s):wpAny (model prog w) A setsByText Q E s:=by
 unfold setsByText;exact wpAny_bind (wpAny_askSetting (wpAny_pure h))
theorem zZ {a:Addr}{ms:List Str}{n:Nat}{Q:Unit->Shared->Prop}{o:Obj}{es:Array (Int×Value)}{ep:Nat}{t:SetTable}(ho:s.heap.get? a=some o)(hd:o.data = .set es ep t)(hf:t.fits es.size=true)(hn:n<=256)(hm:es.size<=n)
  (h:∀ (es':Array (Int×Value)) (t':SetTable),es'.toList.Perm es.toList->t'.place.size=es.size->t'.mask+1=SetTable.sizeAbove n->t'.dummies = #[]->t'.led=t.led->t'.plain=t.plain->Q () { s with heap:=s.heap.update a (Obj.putSet es' t') }) :
  wpAny (model prog w) A (setRelay a n) Q E s:=by
 obtain⟨hM,hlt⟩:=uE n hn;have h8:=hM.pos;unfold setRelay;refine wpAny_bind (wpAny_setState_of ho hd hf ?_)
 dsimp only
 have hs:sizeLine=16777216:=sizeLine_eq;have hsl:¬ SetTable.sizeAbove n>sizeLine:=by
  rcases hM with e | e | e | e | e | e | e <;> omega
 rw[if_neg hsl];obtain⟨t',order,e1,e2,e3,e4,e5,e6,e7⟩:=ST.Ij (mask:=SetTable.sizeAbove n-1) (finger:=t.finger) (moves:=t.movedTo (SetTable.sizeAbove n-1)) (led:=t.led) (plain:=t.plain) (hashes:=es.map (·.1)) (by rw[ib (by omega)];exact hM) (by rw[j3];omega);have e1':t.relaid (es.map (·.1)) n=some (t',order):=e1;rw[e1'];rw[j3] at e2 e3;have hp:=nX e2;have hsz:(order.filterMap (es[·]?)).size=es.size:=by rw[<- bt,hp.length_eq,bt]
 refine wpAny_bind (m:=(do
  if ((order.filterMap (es[·]?)).size != es.size)=true then unsupported "internal:set-table-lost-an-element"
  pure (order.filterMap (es[·]?),t'))) ?_
 rw[hsz,bne_self_eq_false,if_neg am];refine wpAny_pure ?_;exact wpAny_storeSet_of ho hd (h _ _ hp e3 (by rw[e4];omega) e5 e6 e7) (by rw[hsz];omega)
theorem Qh {a b:Addr}{ms ms':List Str}{Q:Bool->Shared->Prop}(h1:Is w s.heap a ms)(h2:Is w s.heap b ms')(h:Q true s):wpAny (model prog w) A (setsQuiet [a,b]) Q E s:=by
 unfold setsQuiet;refine wpAny_bind ?_;refine wpAny_forIn_list _ (fun rest r s'=>r=(none,())∧s'=s∧∀ c∈rest,∃ ks,Is w s.heap c ks) _ ?_ ?_ _ _ ⟨rfl,rfl,fun c hc=>?_⟩
 ·rintro c rest r s' ⟨rfl,rfl,hall⟩
  obtain⟨ks,hc⟩:=hall c (al ..);obtain⟨o,es,ep,t,ho,hex,hd,hel,hnd,hb,hf,_⟩:=hc;refine wpAny_bind (wpAny_setEntries_of ho hd hf (wpAny_bind ?_));rw[<- qx];refine wpAny_forIn_list _ (fun rest r s2=>r=(none,())∧s2=s'∧∀ e∈rest,El w e) _ ?_ ?_ _ _ ⟨rfl,rfl,hel.1⟩
  ·rintro⟨hh,x⟩ rest2 r s2 ⟨rfl,rfl,hall2⟩
   obtain⟨_,tk,e⟩:=hall2 _ (al ..)
   dsimp only at e ⊢
   rw[e];exact wpAny_pure ⟨rfl,rfl,fun u hu=>hall2 u (aj _ hu)⟩
  ·rintro r s2 ⟨rfl,rfl,_⟩
   exact wpAny_pure ⟨rfl,rfl,fun u hu=>hall u (aj _ hu)⟩
 ·rintro r s' ⟨rfl,rfl,_⟩
  exact wpAny_pure h
 ·rcases ar.mp hc with rfl | hc
  ·exact⟨ms,h1⟩
  ·rcases ar.mp hc with rfl | hc
   ·exact⟨ms',h2⟩
   ·cases hc
theorem Ym {a b:Addr}{ms1 ms2:List Str}{Q:Array (Int×Value)->Shared->Prop}(h1:Is w s.heap a ms1)(hne:ms1≠[])(h2:Is w s.heap b ms2)(h:∀ es:Array (Int×Value),Els w es.toList ms2->Q es s) :
  wpAny (model prog w) A (setWalkUnseen b [a] (some a)) Q E s:=by
 obtain⟨o,es,ep,t,ho,hex,hd,hel,hnd,hb,hf,hl,hp⟩:=id h2;unfold setWalkUnseen;refine wpAny_bind (wpAny_setState_of ho hd hf ?_)
 dsimp only
 refine wpAny_bind (fM ?_);have walk:∀ Q':Array (Int×Value)->Shared->Prop,(byT w=true∨es.size<=1)->(∀ es':Array (Int×Value),Els w es'.toList ms2->Q' es' s)->wpAny (model prog w) A (setWalk b) Q' E s:=fun Q' hc hQ=>by
  unfold setWalk;refine wpAny_bind (wpAny_setState_of ho hd hf ?_)
  dsimp only
  refine wpAny_bind (fM ?_);by_cases hby:byT w=true
  ·rw[if_pos hby]
   refine wpAny_bind (wpAny_askSetting (wpAny_pure (hQ _ (hel.perm (wV _ _)))))
  ·rw[if_neg hby]
   have h1:es.size<=1:=hc.resolve_left hby;have hdr:(!t.plain&&decide (es.size>1))=false:=by
    rw[decide_eq_false (by omega),jb]
   have hml:(!t.led&&decide (es.size>1))=false:=by
    rw[decide_eq_false (by omega),jb]
   show wpAny _ _ (if (!t.plain&&decide (es.size>1))=true then _ else _) _ _ s;rw[hdr,if_neg am];refine wpAny_bind (m:=if (!t.led&&decide (es.size>1))=true then unsupported "set:maker-not-led" else pure ()) ?_
   rw[hml,if_neg am];exact wpAny_pure (wpAny_pure (hQ _ hel))
 by_cases hc:byT w=true∨es.size<=1
 ·have e:(byT w||(t.led&&t.plain)||decide (es.size<=1))=true:=by
   rcases hc with z | z
   ·rw[z];simp
   ·rw[decide_eq_true z];simp
  rw[e,if_pos rfl];exact walk _ hc h
 ·have hby:byT w=false:=lc.mpr fun z=>hc (.inl z)
  have hs1:¬ es.size<=1:=fun z=>hc (.inr z)
  have hpl:t.plain=false:=hp.resolve_left (by omega);have hld:t.led=true:=hl.resolve_left (by rw[hby];exact am);have e:(byT w||(t.led&&t.plain)||decide (es.size<=1))=false:=by
   rw[hby,hpl,decide_eq_false hs1];simp
  rw[e,if_neg am];refine wpAny_bind (Qh h2 h1 ?_);simp only [lv,ck,↓reduceIte];refine wpAny_bind (wpAny_rule ?_);obtain⟨o1,es1,ep1,t1,ho1,hex1,hd1,hel1,hnd1,hb1,hf1,hl1,hp1⟩:=id h1;refine wpAny_bind (wpAny_setState_of ho1 hd1 hf1 ?_)
  dsimp only
  have hs0:es1.size≠0:=fun z=>hne (bh.mp (by rw[<- hel1.len,bt];exact z))
  have hpl1:t1.plain=false:=hp1.resolve_left hs0;have hc2:(t1.led && !t.led||t1.plain && !t.plain)=false:=by
   rw[hld,hpl1];simp
  rw[hc2,if_neg am];exact wpAny_pure (h es hel)
theorem Sb {a:Addr}{ms:List Str}{m:Nat}{Q:Unit->Shared->Prop}(hS:Is w s.heap a ms)(hm:ms.length+m<=128)(h:∀ h',Heap.SameBut a s.heap h'->Is w h' a ms->Q () { s with heap:=h' }):wpAny (model prog w) A (setRoomFor a m) Q E s:=by
 obtain⟨o,es,ep,t,ho,hex,hd,hel,hnd,hb,hf,hl,hp⟩:=id hS;have hn:es.size=ms.length:=by rw[<- hel.len,bt]
 have hpsz:t.place.size=es.size:=by
  simp only [SetTable.fits,c7,beq_iff_eq] at hf;exact hf.1
 unfold setRoomFor;refine wpAny_bind (wpAny_setState_of ho hd hf ?_)
 dsimp only
 unfold SetTable.roomFor;by_cases hc:(t.fill+m)*5≥t.mask*3
 ·rw[if_pos hc]
  refine zZ (ms:=ms) ho hd hf (by omega) (by omega) fun es' t' p1 p2 p3 p4 p5 p6=>?_
  have hsz:es'.size=es.size:=by rw[<- bt,p1.length_eq,bt]
  have h8:=(uE ((t.place.size+m)*2) (by omega)).2;have hf':t'.fits es'.size=true:=by
   simp only [SetTable.fits,c7,beq_iff_eq,decide_eq_true_eq,SetTable.fill,p4];exact⟨by omega,by show t'.place.size+0<=t'.mask;omega⟩
  exact h _ (Heap.SameBut.update _ a _) (Is.store prog ho hex hd (hel.perm p1) hnd (by omega) hf' (hl.imp id fun z=>p5.trans z) (hp.imp (fun z=>by omega) fun z=>p6.trans z)).2
 ·rw[if_neg hc]
  exact wpAny_pure (h s.heap (Heap.SameBut.refl a _) hS)
theorem Og {a b:Addr}{ms1 ms2:List Str}{each:Sem Unit}{Q:Unit->Shared->Prop}(hab:a≠b)(h1:Is w s.heap a ms1)(h2:Is w s.heap b ms2)(hne:ms1≠[])(hsz:ms1.length+ms2.length<=128)
  (heach:∀ (s':Shared) (Q':Unit->Shared->Prop),(∀ o,s.heap.get? b=some o->s'.heap.get? b=some o)->Q' () s'->wpAny (model prog w) A each Q' E s')
  (h:∀ h' ms',Heap.SameBut a s.heap h'->Is w h' a ms'->(∀ x,x∈ms'↔x∈ms1∨x∈ms2)->ms'.length<=ms1.length+ms2.length->Q () { s with heap:=h' }):wpAny (model prog w) A (setMerge a b each) Q E s:=by
 obtain⟨o,es,ep,t,ho,hex,hd,hel,hnd,hb,hf,hl,hp⟩:=id h2;have hn:es.size=ms2.length:=by rw[<- hel.len,bt]
 unfold setMerge;rw[if_neg (show ¬ ((a==b)=true) by rw[beq_iff_eq];exact hab)];refine wpAny_bind (wpAny_setState_of ho hd hf ?_)
 dsimp only
 by_cases h0:es.isEmpty=true
 ·rw[if_pos h0]
  have e0:ms2=[]:=bh.mp (by rw[<- hn];simpa using h0);exact wpAny_pure (h s.heap ms1 (Heap.SameBut.refl a _) h1 (fun x=>by rw[e0];simp) (by omega))
 rw[if_neg h0];refine wpAny_bind (Sb h1 (by omega) fun h3 sb3 i3=>?_);have hb3:h3.get? b=some o:=(sb3.2 b (Ne.symm hab)).trans ho;have h2':Is w h3 b ms2:=⟨o,es,ep,t,hb3,hex,hd,hel,hnd,hb,hf,hl,hp⟩;obtain⟨o3,es3,ep3,t3,ho3,hex3,hd3,hel3,hnd3,hb3',hf3,hl3,hp3⟩:=id i3;refine wpAny_bind (wpAny_setState_of (s:={ s with heap:=h3 }) ho3 hd3 hf3 ?_)
 dsimp only
 have hroad:t3.road t = .oneByOne:=by
  unfold SetTable.road;have hp:t3.place.size=es3.size:=by
   simp only [SetTable.fits,c7,beq_iff_eq] at hf3;exact hf3.1
  have hpos:0<es3.size:=by
   rw[<- bt,hel3.len];exact cn.mpr hne
  rw[if_pos];rw[bne_iff_ne];unfold SetTable.fill;omega
 rw[hroad]
 dsimp only
 refine wpAny_bind (Ym (s:={ s with heap:=h3 }) i3 hne h2' fun es4 hel4=>wpAny_bind ?_);rw[<- qx];refine wpAny_forIn_list _ (fun rest _ s'=>∃ dn ms',es4.toList=dn++rest∧s' = { s with heap:=s'.heap }∧Heap.SameBut a s.heap s'.heap∧Is w s'.heap a ms'∧(∀ x,x∈ms'↔x∈ms1∨∃ e∈dn,x=mP e.2)∧ms'.length<=ms1.length+dn.length) _ ?_ ?_ _ _ ⟨[],ms1,rfl,rfl,sb3,i3,fun x=>by simp,by simp⟩
 ·rintro⟨hh,x⟩ rest u s' ⟨dn,ms',e1,e2,sb,i4,hm,hle⟩
  obtain⟨q1,tk,q2⟩:=hel4.1 (hh,x) (by rw[e1];simp)
  dsimp only at q1 q2 ⊢
  have hlen:dn.length+(rest.length+1)=ms2.length:=by
   have:=congrArg gi e1
   rw[hel4.len,ak,aq] at this;omega
  rw[q2,q1];have sb128:scanBound=4096:=rfl;refine wpAny_bind (wpAny_holding (Ob (s:=s') i4 (by omega) fun h5 ms5 sb5 i5 hm5 hl5=>?_));have hb5:h5.get? b=some o:=(sb5.2 b (Ne.symm hab)).trans ((sb.2 b (Ne.symm hab)).trans ho);refine wpAny_bind (heach _ _ (fun o' z=>?_) ?_)
  ·rw[ho] at z
   cases z;exact hb5
  ·refine wpAny_bind (wpAny_setState_of (s:={ s' with heap:=h5 }) hb5 hd hf ?_)
   dsimp only
   rw[bne_self_eq_false,if_neg am];refine wpAny_pure ⟨dn++[(hh,x)],ms5,by rw[e1,c6];rfl,by rw[e2],sb.trans sb5,i5,fun y=>?_,by rw[ak,b7];omega⟩;rw[hm5,hm];constructor
   ·rintro ((z | ⟨e,he,rfl⟩) | rfl)
    ·exact .inl z
    ·exact .inr ⟨e,im _ he,rfl⟩
    ·exact .inr ⟨(hh,x),by simp,rfl⟩
   ·rintro (z | ⟨e,he,rfl⟩)
    ·exact .inl (.inl z)
    ·rcases bu.mp he with z | z
     ·exact .inl (.inr ⟨e,z,rfl⟩)
     ·have:e=(hh,x):=by simpa using z
      subst this;exact .inr rfl
 ·rintro u s' ⟨dn,ms',e1,e2,sb,i4,hm,hle⟩
  rw[df] at e1;rw[e2];refine wpAny_pure (h _ ms' sb i4 (fun x=>?_) ?_)
  ·rw[hm,<- e1,<- hel4.2.mem_iff,ao]
   exact or_congr Iff.rfl ⟨fun ⟨e,he,z⟩=>⟨e,he,z.symm⟩,fun ⟨e,he,z⟩=>⟨e,he,z.symm⟩⟩
  ·have:=congrArg gi e1
   rw[hel4.len] at this;omega
def cY (w:World):Obj:={ cls:=.type "set",dict:=none,data:=.set #[] 0 (.fresh 0 0 (!byT w)) }
theorem Xu {Q:Value->Shared->Prop}(h:Q (.ref s.heap.objs.size) { s with heap:=s.heap.push (cY w) }):wpAny (model prog w) A (newSet (.type "set")) Q E s:=by
 unfold newSet;refine wpAny_bind (fM ?_)
 dsimp only
 simp only [newObj];exact wpAny_bind (wpAny_alloc (wpAny_pure h))
theorem Is.fresh (h:Heap):Is w (h.push (cY w)) h.objs.size []:=by
 refine⟨cY w,#[],0,.fresh 0 0 (!byT w),Heap.get?_push_size _ rfl,⟨rfl,rfl,rfl⟩,rfl,⟨fun e he=>by simp at he,by simp⟩,gu,by decide,rfl,?_,.inl rfl⟩;cases byT w
 ·exact .inr rfl
 ·exact .inl rfl
theorem Md {a:Addr}{n:Nat}{Q:Unit->Shared->Prop}(ho1:s.heap.get? a=some (cY w))(hn:n<=128)
  (h:∀ (h3:Heap) (o3:Obj) (ep3:Nat) (t3:SetTable),Heap.SameBut a s.heap h3->h3.get? a=some o3->o3.ExactSet->o3.data = .set #[] ep3 t3->t3.place.size=0->t3.dummies = #[]->ST.vN (t3.mask+1)->n<=t3.mask->(byT w=true∨t3.led=true)->Q () { s with heap:=h3 }) :
  wpAny (model prog w) A (setRoomFor a n) Q E s:=by
 have hled:byT w=true∨(!byT w)=true:=by cases byT w <;> simp
 unfold setRoomFor;refine wpAny_bind (wpAny_setState_of ho1 rfl rfl ?_)
 dsimp only
 unfold SetTable.roomFor;by_cases hc:((SetTable.fresh 0 0 (!byT w)).fill+n)*5≥(SetTable.fresh 0 0 (!byT w)).mask*3
 ·rw[if_pos hc]
  refine zZ (ms:=[]) ho1 rfl rfl (by show (0+n)*2<=256;omega) (b6 _) fun es' t' p1 p2 p3 p4 p5 p6=>?_
  obtain rfl:es' = #[]:=by
   have:=p1.length_eq
   rw[bt] at this;exact lr this
  obtain⟨hM,hlt⟩:=uE ((0+n)*2) (by omega);have p3':t'.mask+1=SetTable.sizeAbove ((0+n)*2):=p3;have hg:(s.heap.update a (Obj.putSet #[] t')).get? a=some { cY w with data:=.set #[] (0+1) t' }:=by
   have:=Heap.get?_update_self (Obj.putSet #[] t') ho1 (by rw[putSet_of (o:=cY w) #[] t' rfl];rfl)
   rw[putSet_of (o:=cY w) #[] t' rfl] at this;exact this
  exact h _ _ 1 t' (Heap.SameBut.update _ a _) hg ⟨rfl,rfl,rfl⟩ rfl p2 p4 (by rw[p3'];exact hM) (by omega) (hled.imp id fun z=>p5.trans z)
 ·rw[if_neg hc]
  have hc':¬ (0+n)*5≥7*3:=hc;exact wpAny_pure (h s.heap (cY w) 0 _ (Heap.SameBut.refl a _) ho1 ⟨rfl,rfl,rfl⟩ rfl rfl rfl (.inl rfl) (by show n<=7;omega) hled)
theorem Jc {a b:Addr}{ms:List Str}{Q:Unit->Shared->Prop}(hab:a≠b)(ho1:s.heap.get? a=some (cY w))(h2:Is w s.heap b ms)(hsz:ms.length<=128)
  (h:∀ h',Heap.SameBut a s.heap h'->Is w h' a ms->Q () { s with heap:=h' }):wpAny (model prog w) A (setMerge a b) Q E s:=by
 obtain⟨o,es,ep,t,ho,hex,hd,hel,hnd,hb,hf,hl,hp⟩:=id h2;have hn:es.size=ms.length:=by rw[<- hel.len,bt]
 have hled:byT w=true∨(!byT w)=true:=by cases byT w <;> simp
 unfold setMerge;rw[if_neg (show ¬ ((a==b)=true) by rw[beq_iff_eq];exact hab)];refine wpAny_bind (wpAny_setState_of ho hd hf ?_)
 dsimp only
 by_cases h0:es.isEmpty=true
 ·rw[if_pos h0]
  have e0:ms=[]:=bh.mp (by rw[<- hn];simpa using h0);subst e0;exact wpAny_pure (h s.heap (Heap.SameBut.refl a _) ⟨cY w,#[],0,.fresh 0 0 (!byT w),ho1,⟨rfl,rfl,rfl⟩,rfl,⟨fun e he=>by simp at he,by simp⟩,gu,by decide,rfl,hled,.inl rfl⟩)
 rw[if_neg h0];have hpos:0<es.size:=by
  rcases my es.size with z | z
  ·exact absurd (by simpa using z) h0
  ·exact z
 have hpl:t.plain=false:=hp.resolve_left (by omega);refine wpAny_bind (Md ho1 (by omega) fun h3 o3 ep3 t3 sb3 ho3 hex3 hd3 hps hdu hM hle hld3=>?_);have hf3:t3.fits (#[]:Array (Int×Value)).size=true:=by
  simp only [SetTable.fits,c7,beq_iff_eq,decide_eq_true_eq,SetTable.fill,hdu];exact⟨hps,by show t3.place.size+0<=t3.mask;omega⟩
 refine wpAny_bind (wpAny_setState_of (s:={ s with heap:=h3 }) ho3 hd3 hf3 ?_)
 dsimp only
 have hled3:byT w=true∨(t3.led&&t.led)=true:=by
  rcases hld3 with z | z
  ·exact .inl z
  ·rcases hl with y | y
   ·exact .inl y
   ·exact .inr (by rw[z,y];rfl)
 have hfill:(t3.fill != 0)=false:=by
  unfold SetTable.fill;rw[hps,hdu];rfl
 unfold SetTable.road;rw[hfill,if_neg am];by_cases hm:(t3.mask==t.mask&&t.dummies.isEmpty)=true
 ·rw[if_pos hm]
  dsimp only
  refine wpAny_storeSet_of (s:={ s with heap:=h3 }) ho3 hd3 ?_ (fits_of_scanBound hb);exact h _ (sb3.trans (Heap.SameBut.update _ a _)) (Is.store prog (t':={ mask:=t.mask,place:=t.place,dummies:=t.dummies,finger:=t3.finger,led:=t3.led&&t.led,moves:=t3.moves,plain:=t3.plain&&t.plain }) ho3 hex3 hd3 hel hnd hb hf hled3 (.inr (by show (t3.plain&&t.plain)=false;rw[hpl,jb]))).2
 ·rw[if_neg hm]
  dsimp only
  obtain⟨t',order,e1,e2,e3,e4,e5,e6,e7⟩:=ST.Ij (finger:=t3.finger) (moves:=t3.moves) (led:=t3.led&&t.led) (plain:=t3.plain&&t.plain) (hashes:=es.map (·.1)) hM (by rw[j3];exact hle);rw[e1];rw[j3] at e2 e3;have hpm:=nX e2;have hsz':(order.filterMap (es[·]?)).size=es.size:=by rw[<- bt,hpm.length_eq,bt]
  refine wpAny_bind (m:=(do
   if ((order.filterMap (es[·]?)).size != es.size)=true then unsupported "internal:set-table-lost-an-element"
   pure (order.filterMap (es[·]?),t'))) ?_
  rw[hsz',bne_self_eq_false,if_neg am];refine wpAny_pure ?_;refine wpAny_storeSet_of (s:={ s with heap:=h3 }) ho3 hd3 ?_ (by rw[hsz'];exact fits_of_scanBound hb);have hf':t'.fits (order.filterMap (es[·]?)).size=true:=by
   simp only [SetTable.fits,c7,beq_iff_eq,decide_eq_true_eq,SetTable.fill,e5];exact⟨by omega,by show t'.place.size+0<=t'.mask;omega⟩
  exact h _ (sb3.trans (Heap.SameBut.update _ a _)) (Is.store prog ho3 hex3 hd3 (hel.perm hpm) hnd (by rw[hsz'];exact hb) hf' (by rw[e6];exact hled3) (.inr (by rw[e7,hpl,jb]))).2
theorem Is.ty {a:Addr}{ms:List Str}(x:Is w s.heap a ms):s.TypeIs (.ref a) "set" := by
 obtain⟨o,_,_,_,ho,hex,_⟩:=x;exact⟨o,ho,hex.1⟩
theorem Sn {b:Addr}{ms:List Str}{Q:Value->Shared->Prop}(h2:Is w s.heap b ms)(hsz:ms.length<=128)
  (h:∀ h',(∀ x o,s.heap.get? x=some o->h'.get? x=some o)->Is w h' s.heap.objs.size ms->Q (.ref s.heap.objs.size) { s with heap:=h' }):wpAny (model prog w) A (Builtin.Frozenset.copyOf b) Q E s:=by
 unfold Builtin.Frozenset.copyOf Builtin.Frozenset.baseOf;refine wpAny_bind (wpAny_bind (wpAny_isInstance h2.ty sub_set_self (wpAny_pure ?_)));rw[if_pos rfl];refine wpAny_bind (Xu ?_);refine wpAny_bind (m:=Builtin.Frozenset.addrOf (.ref s.heap.objs.size)) (wpAny_pure ?_);obtain⟨o,ho⟩:=h2.there;have hlt:=Heap.lt_size ho;refine wpAny_bind (Jc (s:={ s with heap:=s.heap.push (cY w) }) (g0 hlt) (Heap.get?_push_size _ rfl) (h2.at fun o e=>Heap.get?_push_of_some _ e) hsz fun h' sb i=>wpAny_pure ?_);exact h h' (fun x o e=>(sb.2 x (bb (Heap.lt_size e))).trans (Heap.get?_push_of_some _ e)) i
theorem Lo:entryFor table "set.__or__" = some Builtin.«frozenset.__or__» :=
 entryFor_alias (id' := "frozenset.__or__") (by kernel_rfl) (by first | rfl | decide +kernel | (unfold String.splitOn;simp +decide [String.splitOnAux])) (by decide +kernel) (by kernel_rfl)
theorem Zr {a b:Addr}{ms1 ms2:List Str}{Q:Value->Shared->Prop}(hab:a≠b)(h1:Is w s.heap a ms1)(h2:Is w s.heap b ms2)(hne:ms1≠[])(hsz:ms1.length+ms2.length<=128)
  (h:∀ h' ms',(∀ x o,s.heap.get? x=some o->h'.get? x=some o)->Is w h' s.heap.objs.size ms'->(∀ x,x∈ms'↔x∈ms1∨x∈ms2)->ms'.length<=ms1.length+ms2.length->Q (.ref s.heap.objs.size) { s with heap:=h' }) :
  wpAny (model prog w) A (binaryOp .BitOr (.ref a) (.ref b)) Q E s:=by
 refine wpAny_binaryOp_same h1.ty h2.ty F.fills_set_or F.slot_set_or (wpAny_call_entry F.slot_set_or h1.ty Lo ?_ (F.args_set_or_2 _ _));refine wpAny_bind (m:=Builtin.Frozenset.slot1 "__or__" ⟨[.ref a,.ref b],[]⟩) (wpAny_pure (a:=(Value.ref a,Value.ref b)) ?_)
 dsimp only
 simp only [ck,↓reduceIte];have any:∀ (c:Addr) (ms:List Str) (A':Around) (s':Shared) (Q':Bool->Shared->Prop),Is w s'.heap c ms->Q' true s'->wpAny (model prog w) A' (Builtin.Frozenset.isAnySet (.ref c)) Q' E s':=fun c ms A' s' Q' hc hQ=>by
  unfold Builtin.Frozenset.isAnySet;refine wpAny_bind (m:=isInstance (.ref c) (.type "set")) (wpAny_isInstance hc.ty sub_set_self ?_)
  exact wpAny_pure hQ
 refine wpAny_bind (m:=Builtin.Frozenset.isAnySet (.ref a) <&&> Builtin.Frozenset.isAnySet (.ref b)) ?_;refine wpAny_bind (m:=Builtin.Frozenset.isAnySet (.ref a)) (any a ms1 _ s _ h1 ?_);refine any b ms2 _ s _ h2 ?_;simp only [lv,ck,↓reduceIte];refine wpAny_bind (m:=Builtin.Frozenset.addrOf (.ref a)) (wpAny_pure ?_);refine wpAny_bind ?_;refine wpAny_bind (m:=Builtin.Frozenset.copyOf a) (Sn h1 (by omega) fun h3 kp3 i3=>?_);have hb:(Value.ref b != Value.ref a)=true:=by
  rw[bne_iff_ne];exact fun z=>hab (by cases z;rfl)
 have hlt:=Heap.lt_size h2.there.choose_spec;have h2':Is w h3 b ms2:=h2.at fun o e=>kp3 b o e
 have nb:s.heap.objs.size≠b:=g0 hlt;rw[hb,if_pos rfl];refine wpAny_bind (m:=holding [.ref s.heap.objs.size] (do Builtin.Frozenset.updateFrom _ (<- Builtin.Frozenset.addrOf (.ref s.heap.objs.size)) (.ref b))) (wpAny_holding ?_);refine wpAny_bind (m:=Builtin.Frozenset.addrOf (.ref s.heap.objs.size)) (wpAny_pure ?_);unfold Builtin.Frozenset.updateFrom;refine wpAny_bind (m:=Builtin.Frozenset.isAnySet (.ref b)) (any b ms2 _ { s with heap:=h3 } _ h2' ?_);rw[if_pos rfl];refine wpAny_bind (m:=Builtin.Frozenset.addrOf (.ref b)) (wpAny_pure ?_);unfold Builtin.Frozenset.merge;obtain⟨o,es,ep,t,ho,hex,hd,hel,hnd,hbs,hf,hl,hp⟩:=id h2';refine wpAny_bind (wpAny_setEpoch_of (s:={ s with heap:=h3 }) ho hd hf ?_);refine Og (s:={ s with heap:=h3 }) nb i3 h2' hne hsz (fun s' Q' keep hQ=>?_) fun h4 ms' sb4 i4 hm hle=>?_
 ·unfold Builtin.Frozenset.unchanged
  refine wpAny_bind (wpAny_setEpoch_of (s:=s') (keep o ho) hd hf ?_);rw[bne_self_eq_false,if_neg am];exact wpAny_pure hQ
 ·refine wpAny_pure (wpAny_pure ⟨_,rfl,(by intro z;cases z),h h4 ms' (fun x o' e=>(sb4.2 x (bb (Heap.lt_size e))).trans (kp3 x o' e)) i4 hm hle⟩)
end
theorem dD:Slot "set_iterator" "__next__" "set_iterator.__next__" :=
 .of (owner := "set_iterator") (n := "__next__") (by rw[typeLookup_type,builtinLookup_eq_fast];kernel_rfl) (by decide +kernel) (by decide +kernel) (by decide +kernel) (by first | exact .inl (by decide +kernel) | exact .inr (by decide +kernel)) (by rw[isSubtype_type];kernel_rfl)
theorem jM:entryFor table "set_iterator.__next__" = some Builtin.«set_iterator.__next__» := entryFor_of_tree (by kernel_rfl)
theorem lE (a:Value):argsOk "set_iterator.__next__" ⟨[a],[]⟩:=by unfold argsOk;kernel_rfl
theorem wW:Slot "set_iterator" "__iter__" "set_iterator.__iter__" :=
 .of (owner := "set_iterator") (n := "__iter__") (by rw[typeLookup_type,builtinLookup_eq_fast];kernel_rfl) (by decide +kernel) (by decide +kernel) (by decide +kernel) (by first | exact .inl (by decide +kernel) | exact .inr (by decide +kernel)) (by rw[isSubtype_type];kernel_rfl)
theorem Jb (a:Value):argsOk "set_iterator.__iter__" ⟨[a],[]⟩:=by unfold argsOk;kernel_rfl
theorem Dy:entryFor table "set_iterator.__iter__" = some Builtin.«dict_keyiterator.__iter__» :=
 entryFor_alias (id' := "dict_keyiterator.__iter__") (by kernel_rfl) (by first | rfl | decide +kernel | (unfold String.splitOn;simp +decide [String.splitOnAux])) (by decide +kernel) (by kernel_rfl)
theorem Dk:entryFor table "set.__iter__" = some Builtin.«frozenset.__iter__» :=
 entryFor_alias (id' := "frozenset.__iter__") (by kernel_rfl) (by first | rfl | decide +kernel | (unfold String.splitOn;simp +decide [String.splitOnAux])) (by decide +kernel) (by kernel_rfl)
def It (h:Heap)(I a:Addr)(first:Value)(i n ep:Nat):Prop:=∃ o,h.get? I=some o∧o.cls = .type "set_iterator" ∧ o.data = .fields #[first,rawInt (i:Int),.ref a,rawInt (n:Int),rawInt (ep:Int)]
theorem It.at {h h':Heap}{I a:Addr}{first:Value}{i n ep:Nat}(x:It h I a first i n ep)(e:∀ o,h.get? I=some o->h'.get? I=some o):It h' I a first i n ep:=let ⟨o,ho,r⟩:=x;⟨o,e _ ho,r⟩
section
variable {prog:Program}{w:World}{A:Around}{E:Value->Shared->Prop}{s:Shared}
theorem It.ty {I a:Addr}{first:Value}{i n ep:Nat}(x:It s.heap I a first i n ep):s.TypeIs (.ref I) "set_iterator" := let ⟨o,ho,hc,_⟩:=x;⟨o,ho,hc⟩
theorem Gg {α:Type}{I:Addr}{s0 s:Shared}{Q:Option Value->Shared->Prop}(hh:A.handled=none)(hQ:∀ h',(∀ b o,s.heap.get? b=some o->h'.get? b=some o)->Q none { s with heap:=h' }) :
  wpAny (model prog w) A.in1 (newExc (.type "StopIteration") [] >>= fun e=>(raiseNew e:Sem Fin)) (fun fin s'=>∃ v,fin = .done (.ret v)∧wpAny (model prog w) A (pure (some v)) Q E s')
   (fun e s'=>wpAny (model prog w) A (do if <- isInstance e (.type "StopIteration") then pure none else throw e) Q E s') s:=by
 refine wpAny_bind ?_;simp only [newExc,newTuple];refine wpAny_bind (wpAny_newObj_type ?_ (by size_fits));refine wpAny_bind (m:=firstArgMember _ _) (wpAny_of_eq (a:=Value.none) (by first | rfl | (simp only [firstArgMember];rfl)) ?_);refine wpAny_newObj_type ?_ (by size_fits);simp only [raiseNew];refine wpAny_bind (wpAny_handled ?_)
 first | rw[show A.in1.handled=none from hh] | rw[hh]
 refine wpAny_bind (wpAny_pure (wpAny_throw ?_));refine wpAny_bind (wpAny_isInstance (T := "StopIteration") (b:=true) ⟨_,Heap.get?_push_size _ rfl,rfl⟩ isSubtype_stop ?_)
 refine wpAny_pure (hQ _ fun b ob eb=>?_);exact Heap.get?_push_of_some _ (Heap.get?_push_of_some _ eb)
theorem Ph {I a:Addr}{o:Obj}{es:Array (Int×Value)}{ep i slot nx:Nat}{t:SetTable}{x:Value}{Q:Option Value->Shared->Prop}(hI:It s.heap I a (rawInt (slot:Int)) i es.size ep)(hne:a≠I)(ho:s.heap.get? a=some o)(hd:o.data = .set es ep t)(hf:t.fits es.size=true)
  (hN:∀ (A':Around) (E':Value->Shared->Prop) (Q':Option (Value×Nat)->Shared->Prop),Q' (some (x,nx)) s->wpAny (model prog w) A' (setNext a slot i ep) Q' E' s)
  (hQ:∀ h',It h' I a (rawInt (nx:Int)) (i+1) es.size ep->Heap.SameBut I s.heap h'->Q (some x) { s with heap:=h' }):wpAny (model prog w) A (pyNext (.ref I)) Q E s:=by
 obtain⟨oi,hoi,hci,hdi⟩:=id hI;unfold pyNext;refine wpAny_bind (wpAny_attempt (wpAny_callSpecial?_slot (name:=Str.ofString "__next__") hI.ty dD (wpAny_call_entry dD hI.ty jM ?_ (lE _))))
 unfold Builtin.«set_iterator.__next__»;refine wpAny_bind (wpAny_of_eq (a:=(Value.ref I,[])) rfl ?_)
 try dsimp only
 refine wpAny_bind (wpAny_fieldsOf hoi hdi ?_)
 dsimp only [rawInt]
 refine wpAny_bind (wpAny_setEntries_of ho hd hf ?_);rw[if_neg (by simp)];refine wpAny_bind (m:=setNext a (slot:Int).toNat (i:Int).toNat (ep:Int).toNat) ?_;rw[cu,cu,cu];refine hN _ _ _ ?_
 dsimp only
 refine wpAny_bind (wpAny_setField hoi hdi (by simp) ?_);have h2:=Heap.get?_update_self (Obj.mapFields (·.setIfInBounds 0 (rawInt (nx:Int)))) hoi (Obj.isFreed_of_fields (Obj.data_mapFields hdi _));refine wpAny_bind (wpAny_setField h2 (Obj.data_mapFields hdi _) (by simp) ?_);refine wpAny_pure ⟨_,rfl,wpAny_pure (hQ _ ?_ ((Heap.SameBut.update ..).trans (Heap.SameBut.update ..)))⟩;exact⟨_,Heap.get?_update_self _ h2 (Obj.isFreed_of_fields (Obj.data_mapFields (Obj.data_mapFields hdi _) _)),(Obj.cls_mapFields ..).trans ((Obj.cls_mapFields ..).trans hci),by rw[Obj.data_mapFields (Obj.data_mapFields hdi _)];simp[rawInt]⟩
theorem Tm {I a:Addr}{o:Obj}{es:Array (Int×Value)}{ep i slot:Nat}{t:SetTable}{Q:Option Value->Shared->Prop}(hh:A.handled=none)(hI:It s.heap I a (rawInt (slot:Int)) i es.size ep)(hne:a≠I)(ho:s.heap.get? a=some o)(hd:o.data = .set es ep t)(hf:t.fits es.size=true)
  (hN:∀ (A':Around) (E':Value->Shared->Prop) (Q':Option (Value×Nat)->Shared->Prop),Q' none s->wpAny (model prog w) A' (setNext a slot i ep) Q' E' s)
  (hQ:∀ h',Heap.ExtBut I s.heap h'->Q none { s with heap:=h' }):wpAny (model prog w) A (pyNext (.ref I)) Q E s:=by
 obtain⟨oi,hoi,hci,hdi⟩:=id hI;unfold pyNext;refine wpAny_bind (wpAny_attempt (wpAny_callSpecial?_slot (name:=Str.ofString "__next__") hI.ty dD (wpAny_call_entry dD hI.ty jM ?_ (lE _))))
 unfold Builtin.«set_iterator.__next__»;refine wpAny_bind (wpAny_of_eq (a:=(Value.ref I,[])) rfl ?_)
 try dsimp only
 refine wpAny_bind (wpAny_fieldsOf hoi hdi ?_)
 dsimp only [rawInt]
 refine wpAny_bind (wpAny_setEntries_of ho hd hf ?_);rw[if_neg (by simp)];refine wpAny_bind (m:=setNext a (slot:Int).toNat (i:Int).toNat (ep:Int).toNat) ?_;rw[cu,cu,cu];refine hN _ _ _ ?_
 dsimp only
 refine wpAny_bind (wpAny_setField hoi hdi (by simp) ?_);refine wpAny_mono (Gg (α:=Unit) (I:=I) (s0:=s) (Q:=Q) (E:=E) hh fun h' kp=>hQ h' fun b ob hb eb=>kp b ob ((Heap.get?_update_other _ _ (Ne.symm hb)).trans eb)) (fun fin s' z=>z) fun e s' z=>z
theorem Oq {I a tp:Addr}{o ot:Obj}{es:Array (Int×Value)}{ep i p nt:Nat}{t:SetTable}{x:Int×Value}{ps:List Nat}{Q:Option Value->Shared->Prop}(hI:It s.heap I a (.ref tp) i es.size ep)(ho:s.heap.get? a=some o)(hd:o.data = .set es ep t)(hf:t.fits es.size=true)
  (hot:s.heap.get? tp=some ot) (hdt:ot.data = .seq (ps.map fun j:Nat=>rawInt (j:Int)).toArray nt) (hp:ps[i]?=some p) (hx:es[p]?=some x)
  (hQ:∀ h',It h' I a (.ref tp) (i+1) es.size ep->Heap.SameBut I s.heap h'->Q (some x.2) { s with heap:=h' }):wpAny (model prog w) A (pyNext (.ref I)) Q E s:=by
 obtain⟨oi,hoi,hci,hdi⟩:=id hI;unfold pyNext;refine wpAny_bind (wpAny_attempt (wpAny_callSpecial?_slot (name:=Str.ofString "__next__") hI.ty dD (wpAny_call_entry dD hI.ty jM ?_ (lE _))))
 unfold Builtin.«set_iterator.__next__»;refine wpAny_bind (wpAny_of_eq (a:=(Value.ref I,[])) rfl ?_)
 try dsimp only
 refine wpAny_bind (wpAny_fieldsOf hoi hdi ?_)
 dsimp only [rawInt]
 refine wpAny_bind (wpAny_setEntries_of ho hd hf ?_);rw[if_neg (by simp)];refine wpAny_bind (wpAny_seqItems hot hdt ?_)
 dsimp only
 rw[cu,lh,ah,hp]
 dsimp only [uh,rawInt]
 refine wpAny_bind (m:=setNextDrawn a (p:Int).toNat (ep:Int).toNat) ?_;rw[cu,cu];unfold setNextDrawn;refine wpAny_bind (wpAny_setState_of ho hd hf ?_)
 dsimp only
 rw[bne_self_eq_false,if_neg am,hx];refine wpAny_pure ?_;refine wpAny_bind (wpAny_setField hoi hdi (by simp) ?_);refine wpAny_pure ⟨_,rfl,wpAny_pure (hQ _ ?_ (Heap.SameBut.update ..))⟩;exact⟨_,Heap.get?_update_self _ hoi (Obj.isFreed_of_fields (Obj.data_mapFields hdi _)),(Obj.cls_mapFields ..).trans hci,by rw[Obj.data_mapFields hdi];simp[rawInt]⟩
theorem Tu {I a tp:Addr}{o ot:Obj}{es:Array (Int×Value)}{ep i nt:Nat}{t:SetTable}{ps:List Nat}{Q:Option Value->Shared->Prop}(hh:A.handled=none)(hI:It s.heap I a (.ref tp) i es.size ep)(ho:s.heap.get? a=some o)(hd:o.data = .set es ep t)(hf:t.fits es.size=true)
  (hot:s.heap.get? tp=some ot) (hdt:ot.data = .seq (ps.map fun j:Nat=>rawInt (j:Int)).toArray nt) (hp:ps[i]?=none)
  (hQ:∀ h',Heap.ExtBut I s.heap h'->Q none { s with heap:=h' }):wpAny (model prog w) A (pyNext (.ref I)) Q E s:=by
 obtain⟨oi,hoi,hci,hdi⟩:=id hI;unfold pyNext;refine wpAny_bind (wpAny_attempt (wpAny_callSpecial?_slot (name:=Str.ofString "__next__") hI.ty dD (wpAny_call_entry dD hI.ty jM ?_ (lE _))))
 unfold Builtin.«set_iterator.__next__»;refine wpAny_bind (wpAny_of_eq (a:=(Value.ref I,[])) rfl ?_)
 try dsimp only
 refine wpAny_bind (wpAny_fieldsOf hoi hdi ?_)
 dsimp only [rawInt]
 refine wpAny_bind (wpAny_setEntries_of ho hd hf ?_);rw[if_neg (by simp)];refine wpAny_bind (wpAny_seqItems hot hdt ?_)
 dsimp only
 rw[cu,lh,ah,hp]
 dsimp only [uh]
 refine wpAny_bind (wpAny_setField hoi hdi (by simp) ?_);have h2:=Heap.get?_update_self (Obj.mapFields (·.setIfInBounds 0 (rawInt 0))) hoi (Obj.isFreed_of_fields (Obj.data_mapFields hdi _));refine wpAny_bind (wpAny_setField h2 (Obj.data_mapFields hdi _) (by simp) ?_);refine wpAny_mono (Gg (α:=Unit) (I:=I) (s0:=s) (Q:=Q) (E:=E) hh fun h' kp=>hQ h' fun b ob hb eb=>kp b ob ((Heap.get?_update_other _ _ (Ne.symm hb)).trans ((Heap.get?_update_other _ _ (Ne.symm hb)).trans eb))) (fun fin s' z=>z) fun e s' z=>z
theorem Hl {I a:Addr}{first:Value}{i n ep:Nat}{Q:Value->Shared->Prop}(hI:It s.heap I a first i n ep)(h:Q (.ref I) s):wpAny (model prog w) A (pyIter (.ref I)) Q E s:=by
 refine wpAny_pyIter_slot hI.ty wW (wpAny_call_entry wW hI.ty Dy ?_ (Jb _));show wpAny _ _ (ret (.ref I)) _ _ s;exact wpAny_pure ⟨_,rfl, "set_iterator",_,hI.ty,dD.lookup,h⟩
theorem yS {M:Model}{src:Source}{n:Nat}{Q:Nat->Shared->Prop}(hn:n≠0)(h:∀ i d,i<n->Q i { s with drawn:=d }):wpAny M A (choose src n) Q E s:=fun Γ p hΓ=>⟨hn,h _ _ (jx _ (jk hn))⟩
theorem Se {α:Type}:∀ (xs:List α) (s:Shared) (Q:List α->Shared->Prop),(∀ ys d,ys.Perm xs->Q ys { s with drawn:=d })->wpAny (model prog w) A (drawOrder xs.length xs) Q E s:=by
 intro xs;generalize hn:xs.length=n
 induction n generalizing xs with
 | zero =>
  intro s Q h;obtain rfl:=bh.mp hn;rw[drawOrder];exact wpAny_pure (h [] s.drawn (ic _))
 | succ n ih =>
  intro s Q h
  cases xs with
  | nil=>cases hn
  | cons x xs =>
   rw[drawOrder]
   rotate_left
   ·intro z
    cases z
   refine wpAny_bind (yS (by simp) fun i d hi=>?_);rw[aa hi]
   dsimp only
   refine wpAny_bind (ih ((x::xs).eraseIdx i) (by rw[m4 hi,hn];rfl) _ _ fun ys d2 hp=>wpAny_pure ?_);exact h _ d2 ((hp.cons _).trans (mK _ i hi))
end
theorem Lu {prog:Program}{w:World}{A:Around}{a I:Addr}{o:Obj}{es:Array (Int×Value)}{ep:Nat}{t:SetTable}{L:List (Int×Value)}{slots:Nat->Nat}(hh:A.handled=none)(hne:a≠I)(hd:o.data = .set es ep t)(hf:t.fits es.size=true)
  (hN:∀ (i:Nat) (s:Shared) (A':Around) (E':Value->Shared->Prop) (Q':Option (Value×Nat)->Shared->Prop),s.heap.get? a=some o->i<=L.length->Q' ((L[i]?).map fun e=>(e.2,slots (i+1))) s->wpAny (model prog w) A' (setNext a (slots i) i ep) Q' E' s) :
  Walks prog w A I [I,a] [I] L.length (fun i v=>(L.map (·.2))[i]?=some v) (fun i h=>h.get? a=some o∧It h I a (rawInt (slots i:Int)) i es.size ep) where
 sub:=fun b hb=>by simp at hb;simp[hb]
 frame:=fun _ _ _ y hk=>⟨hk a (by simp) o y.1,y.2.at fun o e=>hk I (by simp) o e⟩
 item:=fun i s Q E hi y hQ=>by
  refine Ph (x:=L[i].2) (nx:=slots (i+1)) y.2 hne y.1 hd hf (fun A' E' Q' q=>hN i s A' E' Q' y.1 (by omega) ?_) fun h' hit hs=>?_
  ·rw[aa hi]
   exact q
  ·exact hQ _ h' s.toks (by rw[ah,aa hi];rfl) ⟨(hs.2 a hne).trans y.1,hit⟩ fun b o hb eo=>hs.extBut b o (fun h=>hb (by simp[h])) eo
 done:=fun s Q E y hQ=>by
  refine Tm hh y.2 hne y.1 hd hf (fun A' E' Q' q=>hN L.length s A' E' Q' y.1 (af _) ?_) fun h' he=>hQ h' s.toks fun b o hb eo=>he b o (fun h=>hb (by simp[h])) eo
  rw[bn (af _)];exact q
 self:=fun _ _ _ _ y hQ=>Hl y.2 hQ
theorem Nh {prog:Program}{w:World}{A:Around}{a I tp:Addr}{o ot:Obj}{es:Array (Int×Value)}{ep nt:Nat}{t:SetTable}{ps:List Nat}(hh:A.handled=none)(hne:a≠I)(hnt:tp≠I)(hd:o.data = .set es ep t)(hf:t.fits es.size=true)
  (hdt:ot.data = .seq (ps.map fun j:Nat=>rawInt (j:Int)).toArray nt) (hps:∀ p∈ps,p<es.size) :
  Walks prog w A I [I,a,tp] [I] ps.length (fun i v=>(ps.map fun p=>(es.getD p (0,.none)).2)[i]?=some v) (fun i h=>h.get? a=some o∧h.get? tp=some ot∧It h I a (.ref tp) i es.size ep) where
 sub:=fun b hb=>by simp at hb;simp[hb]
 frame:=fun _ _ _ y hk=>⟨hk a (by simp) o y.1,hk tp (by simp) ot y.2.1,y.2.2.at fun o e=>hk I (by simp) o e⟩
 item:=fun i s Q E hi y hQ=>by
  have hp:ps[i]?=some ps[i]:=aa hi;have hlt:=hps _ (cy hi);have hx:es[ps[i]]?=some (es[ps[i]]'hlt):=m6 hlt;refine Oq y.2.2 y.1 hd hf y.2.1 hdt hp hx fun h' hit hs=>?_
  refine hQ _ h' s.toks ?_ ⟨(hs.2 a hne).trans y.1,(hs.2 tp hnt).trans y.2.1,hit⟩ fun b o hb eo=>hs.extBut b o (fun h=>hb (by simp[h])) eo
  rw[ah,hp];show some (es.getD ps[i] (0,Value.none)).2=_;rw[gb,hx];rfl
 done:=fun s Q E y hQ=>Tu hh y.2.2 y.1 hd hf y.2.1 hdt (bn (af _)) fun h' he=>hQ h' s.toks fun b o hb eo=>he b o (fun h=>hb (by simp[h])) eo
 self:=fun _ _ _ _ y hQ=>Hl y.2.2 hQ
theorem Aa {w:World}:∀ L:List (Int×Value),(∀ e∈L,El w e)->StrsAre (L.map (·.2)) (L.map fun e=>mP e.2)
 | [],_=>.nil
 | e::L,h=>by
  obtain⟨_,tk,q⟩:=h e (al ..);rw[ap,ap];have r:=Aa L fun x hx=>h x (aj _ hx)
  have z:StrsAre (Value.str (mP e.2) tk::L.map (·.2)) (mP e.2::L.map fun e=>mP e.2):=.cons _ _ r;rw[<- q] at z;exact z
section
variable {prog:Program}{w:World}{A:Around}{E:Value->Shared->Prop}{s:Shared}
theorem Rq {a:Addr}{ms:List Str}{Q:Value->Shared->Prop}(hS:Is w s.heap a ms)
  (h:∀ (h':Heap) (d:Drawn) (I:Addr) (fp:List Addr) (xs:List Value) (ss:List Str) (St:Nat->Heap->Prop),(∀ A':Around,A'.handled=none->Walks prog w A' I fp [I] xs.length (fun i v=>xs[i]?=some v) St)->St 0 h' ->
   (∀ b o,s.heap.get? b=some o->h'.get? b=some o)->s.heap.objs.size<=I->(∀ b∈fp,b=a∨s.heap.objs.size<=b)->StrsAre xs ss->ss.Perm ms->Q (.ref I) { s with heap:=h',drawn:=d }) :
  wpAny (model prog w) A (pyIter (.ref a)) Q E s:=by
 obtain⟨o,es,ep,t,ho,hex,hd,hel,hnd,hb,hf,hl,hp⟩:=id hS;have hlt:=Heap.lt_size ho;have hps:t.place.size=es.size:=by
  simp only [SetTable.fits,c7,beq_iff_eq] at hf;exact hf.1
 refine wpAny_pyIter_slot hS.ty F.slot_set_iter (wpAny_call_entry F.slot_set_iter hS.ty Dk ?_ (F.args_set_iter_1 _));unfold Builtin.«frozenset.__iter__»;refine wpAny_bind (m:=Builtin.Frozenset.slot0 "__iter__" ⟨[.ref a],[]⟩) (wpAny_of_eq (a:=a) rfl ?_)
 unfold Builtin.Frozenset.sizeOf;refine wpAny_bind (wpAny_bind (wpAny_setEntries_of ho hd hf (wpAny_pure ?_)));have hlist:∀ L:List (Int×Value),L.Perm es.toList->StrsAre (L.map (·.2)) (L.map fun e=>mP e.2)∧(L.map fun e=>mP e.2).Perm ms:=fun L hp=>⟨Aa L (hel.perm hp).1,(hel.perm hp).2⟩
 have fin:∀ (L:List (Int×Value)) (slots:Nat->Nat),slots 0=0->L.Perm es.toList->(∀ (i:Nat) (s:Shared) (A':Around) (E':Value->Shared->Prop) (Q':Option (Value×Nat)->Shared->Prop),s.heap.get? a=some o->i<=L.length->Q' ((L[i]?).map fun e=>(e.2,slots (i+1))) s->wpAny (model prog w) A' (setNext a (slots i) i ep) Q' E' s) ->
   wpAny (model prog w) A.in1 (setEpoch a >>= fun e=>newFields "set_iterator" [rawInt 0,rawInt 0,.ref a,rawInt (es.size:Int),rawInt (e:Int)] >>= ret) (fun fin s'=>∃ v,fin = .done (.ret v)∧∃ (T:String) (r:Value),s'.TypeIs v T∧typeLookup (.type T) "__next__" = pure (some r)∧Q v s') E s:=fun L slots h0 hL hN=>by
  refine wpAny_bind (wpAny_setEpoch_of ho hd hf ?_);have hI:It (s.heap.push { cls:=.type "set_iterator",data:=.fields #[rawInt 0,rawInt 0,.ref a,rawInt (es.size:Int),rawInt (ep:Int)] }) s.heap.objs.size a (rawInt (slots 0:Int)) 0 es.size ep:=⟨_,Heap.get?_push_size _ rfl,rfl,by rw[h0];rfl⟩
  obtain⟨q1,q2⟩:=hlist L hL;refine wpAny_bind (wpAny_newObj_type (wpAny_pure ⟨_,rfl, "set_iterator",_,⟨_,Heap.get?_push_size _ rfl,rfl⟩,dD.lookup,?_⟩))
  have z:=h (s.heap.push { cls:=.type "set_iterator",data:=.fields #[rawInt 0,rawInt 0,.ref a,rawInt (es.size:Int),rawInt (ep:Int)] }) s.drawn s.heap.objs.size [s.heap.objs.size,a] (L.map (·.2)) _ (fun i h=>h.get? a=some o∧It h s.heap.objs.size a (rawInt (slots i:Int)) i es.size ep) (fun A' hA'=>by
     rw[aR];exact Lu hA' (bb hlt) hd hf hN) ⟨Heap.get?_push_of_some _ ho,hI⟩ (fun b o e=>Heap.get?_push_of_some _ e) (af _) (fun b hb=>by
     rcases ar.mp hb with rfl | hb
     · exact .inr (af _)
     · exact .inl (a7.mp hb)) q1 q2
  exact z
 have hdrw:∀ (Q':Bool->Shared->Prop),Q' (!byT w&&(!t.plain&&decide (es.size>1))) s->wpAny (model prog w) A.in1 (setDrawn a) Q' E s:=fun Q' q=>by
  unfold setDrawn;refine wpAny_bind (wpAny_setState_of ho hd hf ?_)
  dsimp only
  exact wpAny_bind (fM (wpAny_pure q))
 refine wpAny_bind (hdrw _ ?_);by_cases hby:byT w=true
 ·rw[hby]
  simp only [lv,pw,ck,↓reduceIte];refine wpAny_bind (wpAny_pure ?_);refine fin (pickOrder (w.params.setOrder a ep) es).toList (fun _=>0) rfl (wV _ _) fun i s' A' E' Q' ho' hi q=>?_
  unfold setNext;refine wpAny_bind (wpAny_setState_of ho' hd hf ?_)
  dsimp only
  refine wpAny_bind (fM ?_);rw[hby,if_pos rfl,bne_self_eq_false,if_neg am];unfold setWalk;refine wpAny_bind (wpAny_bind (wpAny_setState_of ho' hd hf ?_))
  dsimp only
  refine wpAny_bind (fM ?_);rw[hby,if_pos rfl];refine wpAny_bind (wpAny_askSetting (wpAny_pure (wpAny_pure ?_)));rw[li] at q;exact q
 ·have hbf:byT w=false:=lc.mpr hby
  have hld:t.led=true:=hl.resolve_left hby;by_cases h1:es.size<=1
  ·have hnot:(!byT w&&(!t.plain&&decide (es.size>1)))=false:=by rw[decide_eq_false (by omega)];simp
   rw[hnot];simp only [ck,↓reduceIte];refine wpAny_bind (wpAny_pure ?_);have hN:∀ (slot i:Nat) (s':Shared) (A':Around) (E':Value->Shared->Prop) (Q':Option (Value×Nat)->Shared->Prop),s'.heap.get? a=some o ->
       Q' (match es[SetTable.below t.place slot]?,t.place[SetTable.below t.place slot]? with | some (_,x),some j=>some (x,j+1) | _,_=>none) s'->wpAny (model prog w) A' (setNext a slot i ep) Q' E' s':=fun slot i s' A' E' Q' ho' q=>by
     unfold setNext;refine wpAny_bind (wpAny_setState_of ho' hd hf ?_)
     dsimp only
     refine wpAny_bind (fM ?_);rw[hbf,if_neg am];have hdr:(!t.plain&&decide (es.size>1))=false:=by rw[decide_eq_false (by omega)];simp
     show wpAny _ _ (if (!t.plain&&decide (es.size>1))=true then _ else _) _ _ s';rw[hdr,if_neg am];refine wpAny_bind (m:=if (!t.led && !es.isEmpty)=true then unsupported "set:maker-not-led" else pure ()) ?_
     rw[hld];simp only [lv,pw,ck,↓reduceIte];exact wpAny_pure (wpAny_pure q)
   by_cases h0:es.size=0
   · have ee:es = #[]:=lr h0
     refine fin [] (fun _=>0) rfl (by rw[ee]) fun i s' A' E' Q' ho' hi q=>hN 0 i s' A' E' Q' ho' ?_
     rw[ee,Array.getElem?_eq_none (by simp)];exact q
   · obtain⟨e0,he0⟩:∃ e0,es = #[e0]:=by
       obtain⟨l⟩:=es
       match l,h0,h1 with
       | [e0],_,_=>exact⟨e0,rfl⟩
       | [],h,_=>exact absurd rfl h
       | _::_::_,_,h=>simp at h
     obtain⟨j,hj⟩:∃ j,t.place = #[j]:=by
       rw[he0] at hps
       cases hpl:t.place with
       | mk l =>
         rw[hpl] at hps
         match l,hps with
         | [j],_=>exact⟨j,rfl⟩
     refine fin [e0] (fun i=>if i=0 then 0 else j+1) rfl (by rw[he0]) fun i s' A' E' Q' ho' hi q=>hN _ i s' A' E' Q' ho' ?_
     have b0:SetTable.below #[j] 0=0:=by
       simp[SetTable.below,SetTable.below.go]
     have b1:SetTable.below #[j] (j+1)=1:=by
       simp[SetTable.below,SetTable.below.go]
     match i,hi with
     | 0,_ =>
       rw[if_pos rfl,hj,b0,he0];exact q
     | 1,_ =>
       rw[if_neg (by decide),hj,b1,he0];exact q
  ·have hpl:t.plain=false:=hp.resolve_left (by omega)
   have hyes:(!byT w&&(!t.plain&&decide (es.size>1)))=true:=by rw[hbf,hpl,decide_eq_true (by omega)];rfl
   rw[hyes,if_pos rfl];have hr:(cp es.size).length=es.size:=dw;refine wpAny_bind (m:=drawOrder es.size (cp es.size)) ?_;have dr:=Se (prog:=prog) (w:=w) (A:=A.in1) (E:=E) (cp es.size) s;rw[hr] at dr;refine dr _ fun ps d hpp=>?_
   have hpl:ps.length=es.size:=by rw[hpp.length_eq,hr]
   have hs:sizeLine=16777216:=sizeLine_eq;have sb:scanBound=4096:=rfl;refine wpAny_bind (wpAny_newTuple ?_ (by rw[aR];omega));generalize hot:({ cls:=.type "tuple",data:=.seq (ps.map fun j:Nat=>rawInt (j:Int)).toArray }:Obj)=ot
   have hg:(s.heap.push ot).get? s.heap.objs.size=some ot:=Heap.get?_push_size _ (by rw[<- hot];rfl);have ho2:(s.heap.push ot).get? a=some o:=Heap.get?_push_of_some _ ho;refine wpAny_bind (wpAny_setEpoch_of (s:={ s with heap:=s.heap.push ot,drawn:=d }) ho2 hd hf ?_);refine wpAny_bind (wpAny_newObj_type (wpAny_pure ⟨_,rfl, "set_iterator",_,⟨_,Heap.get?_push_size _ rfl,rfl⟩,dD.lookup,?_⟩))
   have hsz:(s.heap.push ot).objs.size=s.heap.objs.size+1:=Heap.size_push _ _;have hfm:(ps.map fun p=>es.getD p (0,Value.none)).Perm es.toList:=by
     have e1:(cp es.size).map (fun p=>es.getD p (0,Value.none))=es.toList:=by
       apply List.ext_getElem
       · simp
       · intro i g1 g2
         have g3:i<es.size:=by simpa using g1
         simp[gb,g3]
     exact (hpp.map _).trans (by rw[e1])
   obtain⟨q1,q2⟩:=hlist _ hfm;rw[bj,bj] at q1;rw[bj] at q2;have hps':∀ p∈ps,p<es.size:=fun p hp=>cr.mp (hpp.mem_iff.mp hp)
   have hgo:∀ (o2:Obj),o2 = { cls:=.type "set_iterator",data:=.fields #[.ref s.heap.objs.size,rawInt 0,.ref a,rawInt (es.size:Int),rawInt (ep:Int)] }->Q (.ref (s.heap.objs.size+1)) { s with heap:=(s.heap.push ot).push o2,drawn:=d }:=fun o2 ho2'=>by
    refine h ((s.heap.push ot).push o2) d (s.heap.objs.size+1) [s.heap.objs.size+1,a,s.heap.objs.size] (ps.map fun p=>(es.getD p (0,Value.none)).2) _ (fun i h=>h.get? a=some o∧h.get? s.heap.objs.size=some ot∧It h (s.heap.objs.size+1) a (.ref s.heap.objs.size) i es.size ep) (fun A' hA'=>by
        rw[aR];exact Nh (ot:=ot) (nt:=0) hA' (bb (dz hlt)) (bb (gj _)) hd hf (by rw[<- hot]) hps') ⟨Heap.get?_push_of_some _ ho2,Heap.get?_push_of_some _ hg,?_⟩ (fun b o e=>Heap.get?_push_of_some _ (Heap.get?_push_of_some _ e)) (g7 _) (fun b hb=>?_) q1 q2
    · rw[<- hsz]
      exact⟨o2,Heap.get?_push_size _ (by rw[ho2'];rfl),by rw[ho2'],by rw[ho2'];rfl⟩
    · rcases ar.mp hb with rfl | hb
      · exact .inr (g7 _)
      · rcases ar.mp hb with rfl | hb
        · exact .inl rfl
        · exact .inr (ku (a7.mp hb).symm)
   have z:=hgo _ rfl;rw[<- hsz] at z;exact z
end
theorem Po {xs:List Value}{acc:Array Value}(h:ItemsOf (fun i v=>xs[i]?=some v) acc xs.length):acc.toList=xs:=by
 apply fe;intro i;rw[li]
 cases e:acc[i]? with
 | some v=>exact (h.2 i v e).symm
 | none =>
  have:acc.size<=i:=by
   rcases gt i acc.size with z | z
   ·rw[m6 z] at e;cases e
   ·exact z
  rw[bn (by rw[<- h.1];exact this)]
section
variable {prog:Program}{w:World}{A:Around}{E:Value->Shared->Prop}{s:Shared}
theorem Su {a:Addr}{ms:List Str}{Q:Bool->Shared->Prop}(hS:Is w s.heap a ms)(h:Q false s):wpAny (model prog w) A (Builtin.List.listLengthHint (.ref a)) Q E s:=by
 unfold Builtin.List.listLengthHint;refine wpAny_bind (wpAny_specialOf hS.ty F.slot_set_len.lookup ?_);generalize hid:("set.__len__" : String)=id0
 wp_delta
 rw[show splitId id0=some ("set", "__len__") from by subst hid;decide +kernel]
 subst hid;refine wpAny_bind (wpAny_isInstance (T := "set") (b:=true) hS.ty sub_set_self ?_)
 refine wpAny_ite_split (fun hab=>absurd hab (by decide)) (fun _=>?_);refine wpAny_ite_split (fun _=>?_) (fun hab=>absurd (by decide +kernel) hab);refine wpAny_bind (wpAny_typeOf hS.ty ?_);exact wpAny_pure h
theorem Iz {a:Addr}{ms:List Str}{R:Result->Shared->Prop}(hh:A.handled=none)(hS:Is w s.heap a ms)(hz:ms.length<=sizeLine)(S:Addr)(res:Value)(h1:S≠a)(hSl:s.heap.get? S=some { cls:=.type "list",data:=.seq #[] })
  (hR:∀ s' acc' c' ss,(∀ b o,b≠S->s.heap.get? b=some o->s'.heap.get? b=some o)->s'.gens=s.gens->s'.os=s.os->s'.heap.get? S=some { cls:=.type "list",dict:=none,data:=.seq acc' c',slots:=#[] }->StrsAre acc'.toList ss->ss.Perm ms->R (.ok (.ret res)) s') :
  wpAny (model prog w) A.in1 (Builtin.List.listExtendWith (.ref S) (.ref a) res)
   (fun fin s'=>match fin with | .done f=>R (.ok f) s' | .again c'=>c'.quiet=true∧codeAny (model prog w) A c' R s') (fun e s'=>R (.error e) s') s:=by
 unfold Builtin.List.listExtendWith;refine wpAny_bind (wpAny_typeOf hS.ty ?_);have g1:Builtin.List.listSameRef (.ref S) (.ref a)=false:=by simp[Builtin.List.listSameRef,h1]
 have g2:(Value.type "set" == Value.type "list")=false:=by decide
 have g3:(Value.type "set" == Value.type "tuple")=false:=by decide
 simp only [g1,g2,g3,ix,ck,if_false];refine wpAny_bind (Rq (A:=A.in1) hS fun h2 d I fp xs ss St W st0 kp hIs hfp hss hpm=>?_);have hlt:=Heap.lt_size hSl;have hSI:S≠I:=bb (bx hlt hIs);have hSf:S∉fp:=fun z=>by
  rcases hfp S z with e | e
  ·exact h1 e
  ·exact absurd hlt (ui.mpr e)
 have hS2:Is w h2 a ms:=hS.at fun o e=>kp a o e
 refine wpAny_bind (wpAny_holding (Su (s:={ s with heap:=h2,drawn:=d }) hS2 ?_));have WS:=(W A.in1 hh).toS;have hxl:xs.length=ms.length:=by rw[hss.length,hpm.length_eq]
 have last:∀ (h0:Heap) (c0:Nat),(∀ b o,b≠S->h2.get? b=some o->h0.get? b=some o)->h0.get? S=some { cls:=.type "list",data:=.seq #[] c0 } ->
   wpAny (model prog w) A.in1 (again (.builtin "list.extend.loop" ⟨[.ref S,.ref I,res],[]⟩))
    (fun fin s'=>match fin with | .done f=>R (.ok f) s' | .again c'=>c'.quiet=true∧codeAny (model prog w) A c' R s') (fun e s'=>R (.error e) s') { s with heap:=h0,drawn:=d }:=fun h0 c0 hk0 hS0=>by
  refine wpAny_pure ⟨plainId_quiet F.plain_extend_loop _,codeAny_extend_loopS WS (by omega) S hSf res xs.length 0 _ #[] c0 rfl (b6 _) ?_ hS0 (ItemsOf.nil _) fun s' acc' c' hm hS' hacc=>?_⟩
  ·exact (W A.in1 hh).frame 0 h2 h0 st0 fun b hb o e=>hk0 b o (fun z=>hSf (z▸hb)) e
  ·refine hR s' acc' c' ss (fun b o hb e=>?_) hm.gens hm.os hS' (by rw[Po hacc];exact hss) hpm
   by_cases hbI:b=I
   ·subst hbI
    exact absurd (Heap.lt_size e) (ui.mpr hIs)
   ·exact hm.heap b o (by simp[hb,hbI]) (hk0 b o hb (kp b o e))
 refine wpAny_ite_split (fun _=>?_) (fun hab=>absurd (by decide +kernel) hab);refine wpAny_bind (wpAny_rule ?_);have hSl2:h2.get? S=some { cls:=.type "list",data:=.seq #[] }:=kp S _ hSl
 refine wpAny_bind (m:=((do updateSeq S (fun z=>z.push .none);updateSeq S (fun z=>z.pop)):Sem Unit)) (wpAny_bind (wpAny_updateSeq (s:={ s with heap:=h2,drawn:=d }) hSl2 rfl ?_));have k1:=Heap.get?_update_self (Obj.mapSeq (fun z=>z.push .none)) hSl2 rfl;refine wpAny_updateSeq k1 rfl ?_;have k2:=Heap.get?_update_self (Obj.mapSeq (fun z=>z.pop)) k1 rfl;exact last _ _ (fun b o hb e=>(Heap.get?_update_other _ _ (Ne.symm hb)).trans ((Heap.get?_update_other _ _ (Ne.symm hb)).trans e)) k2
theorem Di {a:Addr}{ms:List Str}{Q:List Value->Shared->Prop}(hh:A.handled=none)(hS:Is w s.heap a ms)(hz:ms.length<=sizeLine)
  (hQ:∀ s' vs ss,(∀ b o,s.heap.get? b=some o->s'.heap.get? b=some o)->s'.gens=s.gens->s'.os=s.os->StrsAre vs ss->ss.Perm ms->Q vs s'):wpAny (model prog w) A (collect (.ref a)) Q E s:=by
 have hlt:=Heap.lt_size hS.there.choose_spec;unfold collect;refine wpAny_bind (wpAny_runValue (codeAny_builtin F.entry_proto_collect ?_));rw[Around.under_plainId F.plain_proto_collect];refine wpAny_bind (m:=newList []) (wpAny_newObj_type (wpAny_pure ⟨plainId_quiet F.plain_list_iadd _,codeAny_builtin F.entry_list_iadd ?_⟩));rw[Around.under_plainId F.plain_list_iadd];have hSl:(s.heap.push { cls:=.type "list",data:=.seq #[] }).get? s.heap.objs.size=some { cls:=.type "list",data:=.seq #[] }:=Heap.get?_push_size _ rfl
 have go:∀ R:Result->Shared->Prop,(∀ s' acc' c' ss,(∀ b o,s.heap.get? b=some o->s'.heap.get? b=some o)->s'.gens=s.gens->s'.os=s.os->s'.heap.get? s.heap.objs.size=some { cls:=.type "list",dict:=none,data:=.seq acc' c',slots:=#[] }->StrsAre acc'.toList ss->ss.Perm ms->R (.ok (.ret (.ref s.heap.objs.size))) s') ->
   wpAny (model prog w) A.in1 (Builtin.List.listExtendWith (.ref s.heap.objs.size) (.ref a) (.ref s.heap.objs.size))
    (fun fin s'=>match fin with | .done f=>R (.ok f) s' | .again c'=>c'.quiet=true∧codeAny (model prog w) A c' R s') (fun e s'=>R (.error e) s') { s with heap:=s.heap.push { cls:=.type "list",data:=.seq #[] } }:=fun R hR =>
  Iz (A:=A) (s:={ s with heap:=s.heap.push { cls:=.type "list",data:=.seq #[] } }) hh (hS.at fun o e=>Heap.get?_push_of_some _ e) hz s.heap.objs.size (.ref s.heap.objs.size) (g0 hlt) hSl
   fun s' acc' c' ss kp g1 g2 e1 e2 e3=>hR s' acc' c' ss (fun b o e=>kp b o (bb (Heap.lt_size e)) (Heap.get?_push_of_some _ e)) g1 g2 e1 e2 e3
 refine go (fun r s'=>match r with
  | .ok (.ret v)=>wpAny (model prog w) A (match v with
   | .ref a=>do
    match (<- load a).data with
    | .seq xs _=>pure xs.toList
    | _=>unsupported "internal:collect"
   | _=>unsupported "internal:collect") Q E s'
  | .ok _=>False
  | .error e=>E e s') fun s' acc' c' ss kp g1 g2 hS' e2 e3=>?_
 refine wpAny_bind (m:=load s.heap.objs.size) (wpAny_load hS' (wpAny_pure ?_));exact hQ s' acc'.toList ss kp g1 g2 e2 e3
theorem Iv (a:Value){Q₁:Value->Shared->Prop}(h:Q₁ (.ref s.heap.objs.size) { s with heap:=s.heap.push (cY w) }):codeAny (model prog w) A (.call (.builtin "set.__new__") ⟨[.type "set",a],[]⟩) (wants Q₁ E) s:=by
 refine codeAny_of_tree (show wpAny _ A.in1 (do checkBuiltinCall "set.__new__" ⟨[.type "set",a],[]⟩;again (.builtin "set.__new__" ⟨[.type "set",a],[]⟩)) _ _ s from ?_)
 refine wpAny_bind (wpAny_of_eq (F.newCall_set_1 a) (wpAny_pure ⟨plainId_quiet F.plain_set_new _,codeAny_builtin F.entry_set_new ?_⟩));rw[Around.under_plainId F.plain_set_new _];unfold Builtin.«set.__new__» Builtin.Frozenset.newClass;have hsub:=sub_set_self;obtain⟨hp,g,d,tk,os⟩:=s
 dsimp only
 wp_walk
 refine wpAny_askSetting (wpAny_pure ?_)
 dsimp only
 simp only [newObj];refine wpAny_bind (wpAny_alloc (wpAny_pure (wpAny_pure h)))
end
end SS
namespace L2
open PySem PySem.Spec PyProof.Rows
namespace SE
def Of (w:World)(h:Heap)(D:Addr)(ls:List (List Nat))(i:Nat):Prop:=∃ ms,SS.Is w h D ms∧(∀ x,x∈ms↔x∈(ls.take i).map tx)∧ms.length<=i
theorem Of.at {w:World}{h h':Heap}{D:Addr}{ls:List (List Nat)}{i:Nat}(x:Of w h D ls i)(k:∀ o,h.get? D=some o->h'.get? D=some o):Of w h' D ls i:=let ⟨ms,a,b⟩:=x;⟨ms,a.at k,b⟩
section
variable {prog:Program}{w:World}{A:Around}{R:Result->Shared->Prop}{J:Addr}{fp wr:List Addr}{G:Array GenState->Array GenState->Prop}{n:Nat}{P:Nat->Value->Prop}{St:Nat->Shared->Prop}
theorem Zw (W:WalksS prog w A.in1 J fp wr G n P St){D:Addr}(hD:D∉fp)(ls:List (List Nat))(hv:∀ i v,P i v->∃ t,v=Value.str (tx (ls.getD i [])) t)(hn:n+1<scanBound)(hnl:n<=ls.length) :
  ∀ (k i:Nat) (s:Shared),n-i=k->i<=n->St i s->Of w s.heap D ls i ->
   (∀ s',Moved (D::wr) G s s'->Of w s'.heap D ls n->R (.ok (.ret .none)) s')->codeAny (model prog w) A (.builtin "set.update.loop" ⟨[.ref D,.ref J],[]⟩) R s:=by
 have hDw:D∉wr:=fun z=>hD (W.sub _ z)
 have up:∀ b∈wr,b∈D::wr:=fun b hb=>.tail _ hb
 intro k
 induction k with
 | zero =>
  intro i s hk hi st hs hR;obtain rfl:i=n:=by omega
  refine codeAny_builtin e9 ?_;rw[Around.under_plainId dg];refine wpAny_bind (m:=pyNext (.ref J)) (W.done s _ _ st fun s2 mv=>?_);exact (show wpAny _ A.in1 (ret Value.none) _ _ s2 from wpAny_pure (hR s2 (mv.mono up) (hs.at fun o e=>mv.heap D o hDw e)))
 | succ k ih =>
  intro i s hk hi st hs hR;have hlt:i<n:=by omega
  refine codeAny_builtin e9 ?_;rw[Around.under_plainId dg];refine wpAny_bind (m:=pyNext (.ref J)) (W.item i s _ _ hlt st fun v s2 pv st2 mv=>?_);obtain⟨t,rfl⟩:=hv i v pv;have hs2:=hs.at fun o e=>mv.heap D o hDw e
  refine wpAny_bind (m:=holding [Value.str (tx (ls.getD i [])) t] (setAdd D (.str (tx (ls.getD i [])) t))) (wpAny_holding ?_);unfold setAdd;refine wpAny_holding (wpAny_bind ((fj prog w).pyHash (k:=tx (ls.getD i [])) (strKind_is _ _ _ _) ?_));obtain⟨ms,hi1,hi2,hi3⟩:=hs2;refine SS.Ob (s:={ s2 with toks:=s2.toks+1 }) hi1 (by omega) fun h3 ms3 sb i3 m3 l3=>?_
  have x4:Of w h3 D ls (i+1):=by
   refine⟨ms3,i3,fun x=>?_,by omega⟩;have e:ls.take (i+1)=ls.take i++[ls.getD i []]:=by
    rw[ca,ai,aa (by omega)];rfl
   rw[m3,hi2,e,bc,bu,ap,ip,a7]
  refine wpAny_pure ⟨plainId_quiet dg _,ih (i+1) _ (by omega) hlt (W.frame _ s2 _ _ st2 (g7 _) fun b hb o e=>(sb.2 b fun z=>hD (z▸hb)).trans e) x4 fun s5 m5 x5=>?_⟩;refine hR s5 (Moved.trans W.gtrans ((mv.mono up).then_heap (g7 _) fun b o hb e=>(sb.2 b fun z=>hb (z▸.head _)).trans e) m5) x5
variable {E:Value->Shared->Prop}{s:Shared}
theorem Ng {l:Addr}{its:Array Value}{ls:List (List Nat)}{Q:Value->Shared->Prop}(hh:A.handled=none)(hl:s.heap.IsList l its)(hv:∀ i v,its[i]?=some v->∃ t,v=Value.str (tx (ls.getD i [])) t)(hn:its.size+1<scanBound)(hnl:its.size<=ls.length)
  (h:∀ (h':Heap) (tk:Nat),Of w h' s.heap.objs.size ls its.size->(∀ b o,s.heap.get? b=some o->h'.get? b=some o)->Q (.ref s.heap.objs.size) { s with heap:=h',toks:=tk }) :
  wpAny (model prog w) A (call (.type "set") [.ref l]) Q E s:=by
 obtain⟨mc,mt,f0⟩:=F.called_set.mro;have f1:=F.called_set.made;have f2:=F.called_set.sub;have f3:=F.called_set.notType;have f4:=F.called_set.canCreate;have f5:=F.typeCall_set_1 (.ref l);refine wpAny_call (codeAny_of_tree (show wpAny _ _ (callAny (.type "set") _) _ _ _ from wpAny_pure ⟨Code.quiet_builtin _ (by decide +kernel),codeAny_builtin F.entry_type_call ?_⟩))
 rw[Around.under_plain (weight_type_call_type "set" [.ref l] []) rfl]
 repeat (any_goals (first | wp_step | assumption))
 refine codeAny_mono (SS.Iv (.ref l) (E:=E) (Q₁:=fun ob s1=>ob = .ref s.heap.objs.size∧s1 = { s with heap:=s.heap.push (SS.cY w) }) ⟨rfl,rfl⟩) fun r s1 hr=>?_
 cases r with
 | error e=>exact hr
 | ok fl =>
  cases fl with
  | ret ob =>
   obtain⟨rfl,rfl⟩:=hr;generalize hob:SS.cY w=ob;have hD:(s.heap.push ob).get? s.heap.objs.size=some ob:=Heap.get?_push_size _ (by rw[<- hob];rfl);have hT:Shared.TypeIs { s with heap:=s.heap.push ob } (.ref s.heap.objs.size) "set" := ⟨_,hD,by rw[<- hob];rfl⟩
   have f6:=F.called_set.init.lookup;have f7:=F.called_set.init.bind (.ref s.heap.objs.size)
   repeat (any_goals (first | wp_step | assumption))
   refine codeAny_mono (codeAny_call_builtin (R:=wants (fun r s2=>r = .none∧∃ h' tk,s2 = { s with heap:=h',toks:=tk }∧Of w h' s.heap.objs.size ls its.size∧∀ b o,s.heap.get? b=some o->h'.get? b=some o) E)
    F.called_set.init.plain F.entry_set_init (check_set_init_1 hT ?_)) fun r2 s2 hr2=>?_
   ·obtain⟨⟨oc,od,odt,osl⟩,hol,hcl,nl,hdl⟩:=id hl
    simp only at hcl hdl;subst hcl hdl;have hol':(s.heap.push ob).get? l=some { cls:=.type "list",dict:=od,data:=.seq its nl,slots:=osl }:=Heap.get?_push_of_some _ hol
    have f8:=F.sub_list_set;have f9:=F.sub_list_frozenset;have f10:(Value.type "list" == Value.type "dict")=false:=by decide
    have hl1:(s.heap.push ob).IsList l its:=⟨_,hol',rfl,nl,rfl⟩;subst hob;unfold Builtin.«set.__init__» noKeywords Builtin.Frozenset.updateFrom;generalize hPI:pyIter=PI
    wp_walk
    subst hPI;refine wpAny_pyIter_list hl1 ?_;refine wpAny_bind (wpAny_runValue ?_);have hlt:l<s.heap.objs.size:=Heap.lt_size hol;have hh3:A.in1.in1.in1.handled=none:=by simp[hh]
    have hsz:(s.heap.push (SS.cY w)).objs.size=s.heap.objs.size+1:=Heap.size_push _ _;have hne:l≠(s.heap.push (SS.cY w)).objs.size:=by rw[hsz];exact bb (dz hlt)
    have hfp:s.heap.objs.size∉[(s.heap.push (SS.cY w)).objs.size,l]:=by
     rw[hsz];intro z;rcases ar.mp z with e | e
     ·exact bb (gj _) e
     ·exact g0 hlt (a7.mp e)
    refine Zw ((Walks.list hh3 _ l hne its).toS) (D:=s.heap.objs.size) hfp ls hv hn hnl (its.size-0) 0 _ (by omega) (b6 _) ⟨⟨_,Heap.get?_push_size _ rfl,rfl,rfl⟩,hl1.push _⟩ ?_ fun s3 mv x3=>?_
    ·have hg:((s.heap.push (SS.cY w)).push { cls:=.type "list_iterator",data:=.fields #[.ref l,.int 0 0] }).get? s.heap.objs.size=some (SS.cY w):=Heap.get?_push_of_some _ hD
     exact⟨[],(SS.Is.fresh s.heap).at fun o e=>Heap.get?_push_of_some _ e,fun x=>by simp,b6 _⟩
    ·obtain⟨h3,g3,d3,tk3,os3⟩:=s3
     obtain rfl:g3=s.gens:=mv.gens;obtain rfl:d3=s.drawn:=mv.drawn;obtain rfl:os3=s.os:=mv.os;refine wpAny_pure (show wpAny _ _ (ret Value.none) _ _ _ from wpAny_pure ⟨rfl,h3,tk3,rfl,x3,fun c o e=>?_⟩);have hc:=Heap.lt_size e;exact mv.heap c o (show c∉[s.heap.objs.size,(s.heap.push (SS.cY w)).objs.size] by
      rw[hsz];intro z;rcases ar.mp z with e | e
      ·exact bb hc e
      ·exact bb (dz hc) (a7.mp e)) (Heap.get?_push_of_some _ (Heap.get?_push_of_some _ e))
   ·cases r2 with
    | error e=>exact hr2
    | ok fl2 =>
     cases fl2 with
     | ret r =>
      obtain⟨rfl,h3,tk,rfl,x3,k3⟩:=hr2
      repeat (any_goals (first | wp_step | assumption))
      exact h _ _ x3 k3
     | _=>exact hr2.elim
  | _=>exact hr.elim
end
end SE
def lQ (w:World)(D:Addr)(ms:List (List Nat)):HO:=.ext fun h=>SS.Is w h D (ms.map tx)
theorem sJ {ls:List (List Nat)}{x:Str}:x∈ls.map tx↔x.cps.toList∈ls:=by
 rw[ao];constructor
 ·rintro⟨l,h,rfl⟩
  rw[cW];exact h
 ·intro h
  exact⟨_,h,iN x⟩
theorem Sx {w:World}{h:Heap}{D:Addr}{ms ms':List Str}(x:SS.Is w h D ms)(p:ms.Perm ms'):SS.Is w h D ms':=by
 obtain⟨o,es,ep,t,ho,hex,hd,hel,hnd,r⟩:=x;exact⟨o,es,ep,t,ho,hex,hd,⟨hel.1,hel.2.trans p⟩,p.nodup_iff.mp hnd,r⟩
theorem Ar {w:World}{h:Heap}{D:Addr}{ms:List Str}(x:SS.Is w h D ms):ms.Nodup:=let ⟨_,_,_,_,_,_,_,_,n,_⟩:=x;n
theorem Ms {ls:List (List Nat)}(h:ls.Nodup):(ls.map tx).Nodup:=by
 refine de.mpr (h.imp fun hne e=>hne (eX e))
section
variable {X:Cx}
theorem zK {pins:List (Addr×Obj)}{σ:St}{H:Hp}{s:Shared}{D:Addr}{ms:List (List Nat)}(I:Inv X pins σ H s)(h:H D=some (lQ X.w D ms)):SS.Is X.w s.heap D (ms.map tx):=by
 obtain⟨x,_⟩:=(show cK X.prog X.w H s.heap D (lQ X.w D ms) from I.hok D _ h);exact x
theorem oU (hc:X.calm=true):eA X (.type "set") (fun xs H Q=>∃ (p:Addr) (ls:List (List Nat)),xs=[.ref p]∧SqL X.K H p (ls.map T)∧ls.length+1<4096∧∀ D,H D=none->Q (.ref D) (upd H D (lQ X.w D (uniq ls)))):=by
 intro pins s σ H xs us Q I r h;obtain⟨p,ls,rfl,hq,hz,q⟩:=h;obtain⟨u,rfl,ru⟩:=eZ r;cases ru;obtain⟨its,rv,pl,_⟩:=I.list hq;have hlen:=rv.length;rw[aR] at hlen;refine SE.Ng (I.ok.hd hc) pl.isList (ls:=ls) (fun i v e=>Nq rv (by simpa using e)) (by rw[az];unfold scanBound;omega) (by rw[az];omega) fun h' tk x k=>?_
 obtain⟨ms,i1,i2,_⟩:=x;have x:SS.Is X.w h' s.heap.objs.size ((uniq ls).map tx):=by
  refine Sx i1 ((dq (Ar i1) (Ms (mH ls))).mpr fun y=>?_);rw[i2,sJ,sJ,gA,az,<- hlen,cf]
 have hf:H s.heap.objs.size=none:=I.hok.fresh (af _);refine⟨.ref s.heap.objs.size,_,I.laid (t':=tk) k (af _) (o:=lQ X.w s.heap.objs.size (uniq ls)) ⟨x,x.there,fun h1 h2 x1 kk=>x1.at kk⟩,rfl,q _ hf⟩
theorem Wb:OpR X (binaryOp .BitOr) (fun x y H Q=>∃ (a b:Addr) (ls ms:List (List Nat)),x = .ref a∧y = .ref b∧a≠b∧H a=some (lQ X.w a ls)∧H b=some (lQ X.w b ms)∧ls≠[]∧ls.length+ms.length<=128 ∧
  ∀ (D:Addr) (qs:List (List Nat)),H D=none->qs.Nodup->qs.length<=ls.length+ms.length->(∀ z,z∈qs↔z∈ls∨z∈ms)->Q (.ref D) (upd H D (lQ X.w D qs))):=by
 intro pins s σ H x y v u Q I rx ry h;obtain⟨a,b,ls,ms,rfl,rfl,hab,h1,h2,hne,hsz,q⟩:=h;cases rx;cases ry;refine SS.Zr hab (zK I h1) (zK I h2) (fun z=>hne (mh.mp z)) (by rw[aR,aR];exact hsz) fun h' ms' kp i hm hl=>?_
 have em:(ms'.map fun x=>x.cps.toList).map tx=ms':=by
  rw[bj]
  conv=>rhs;rw[<- iw ms']
  exact ay fun x _=>iN x
 have hnd:(ms'.map fun x=>x.cps.toList).Nodup:=de.mpr ((Ar i).imp fun {a b} hne e=>hne ((iN a).symm.trans ((congrArg tx e).trans (iN b))));have x:SS.Is X.w h' s.heap.objs.size ((ms'.map fun x=>x.cps.toList).map tx):=by rw[em];exact i
 refine⟨.ref s.heap.objs.size,_,I.laid (t':=s.toks) kp (af _) (o:=lQ X.w s.heap.objs.size (ms'.map fun x=>x.cps.toList)) ⟨x,x.there,fun h1 h2 x1 kk=>x1.at kk⟩,rfl,q _ _ (I.hok.fresh (af _)) hnd (by rw[aR];rw[aR,aR] at hl;exact hl) fun z=>?_⟩;have e:=hm (tx z);rw[sJ,sJ,cW] at e;rw[<- e,<- em,sJ,cW,em]
end
structure kA (J:It)(H:Hp)(vs:List V):Prop where
 go:∀ i H',aK H H'->i<vs.length->J.go i H'
 yl:∀ i H' y H2,aK H H'->J.yld i H' y H2->H2=H'∧vs[i]?=some y
 st:∀ H',aK H H'->J.stop vs.length H'
theorem bC {K:ae}{a:Addr}{H:Hp}{vs:List V}(h:SqL K H a vs):kA (Itl K a) H vs :=
 ⟨fun i H' s hi=>⟨vs,vs[i],s.seq h,aa hi⟩,fun i H' y H2 s ⟨e1,e2⟩=>⟨e1,e2 vs (s.seq h)⟩,fun H' s=>⟨vs,s.seq h,af _⟩⟩
theorem qD {K:ae}{H H':Hp}{p:Addr}{xs:List V}(s:aK H H')(h:SqT K H p xs):SqT K H' p xs:=by
 rcases h with (h | ⟨q,h⟩) | h
 ·exact .inl (.inl (s _ _ h))
 ·exact .inl (.inr ⟨q,s _ _ h⟩)
 ·exact .inr h
theorem gQ {K:ae}{a:Addr}{H:Hp}{vs:List V}(h:SqT K H a vs):kA (Itt K a) H vs :=
 ⟨fun i H' s hi=>⟨vs,vs[i],qD s h,aa hi⟩,fun i H' y H2 s ⟨e1,e2⟩=>⟨e1,e2 vs (qD s h)⟩,fun H' s=>⟨vs,qD s h,af _⟩⟩
theorem uH {l:List Nat}{H:Hp}:kA (Itx l) H ((l.map fun c=>[c]).map T) :=
 ⟨fun i H' _ hi=>by (show i<l.length;simpa using hi),fun i H' y H2 _ ⟨e1,c,hc,e2⟩=>⟨e1,by rw[ah,ah,hc,e2];rfl⟩,fun H' _=>by show l.length<=_;simp⟩
theorem iJ {J:It}{vs:List V}{te:TE}{σ:St}{H:Hp}{Q:VK}(f:V->V)(rd:kA J H vs)(hn:vs.length<=sizeLine)
  (he:∀ x H',x∈vs->aK H H'->∀ N:V->Hp->Prop,(∀ H'',aK H' H''->N (f x) H'')->te (some x::σ) H' N)
  (hq:∀ D H',H D=none->aK H H'->H' D=some (.lst (vs.map f))->Q (.ref D) H'):gR te σ Q J H:=by
 intro D hD;refine⟨fun i m ys H2=>m=vs.length-i∧i<=vs.length∧ys=(vs.take i).map f∧aK H H2∧H2 D=some (.lst ys),⟨vs.length,rfl,b6 _,rfl,fun b o e=>?_,aD⟩,?_⟩
 ·rw[aM (aO e hD)]
  exact e
 ·rintro i m ys H2 ⟨rfl,hi,rfl,hs,hd⟩
  by_cases hlt:i<vs.length
  ·have hx:vs[i]?=some vs[i]:=aa hlt
   refine .inr ⟨rd.go i H2 hs hlt,by rw[aR,a6];omega,fun v H'=>v=f vs[i]∧aK H2 H',fun v H' ⟨ev,hs'⟩=>⟨hs' D _ hd,vs.length-(i+1),by omega,rfl,hlt,?app,fun b o e=>?kp,aD⟩,fun y H' hy=>?stp⟩
   case app =>
    rw[ev,ca,hx,bc];rfl
   case kp =>
    rw[aM (aO e hD)];exact hs' b o (hs b o e)
   case stp =>
    obtain⟨rfl,e2⟩:=rd.yl i H2 y H' hs hy;have e4:y=vs[i]:=by rw[hx] at e2;exact (a8 e2).symm
    subst e4;exact he _ _ (cy hlt) hs _ fun H'' h''=>⟨rfl,h''⟩
  ·have e:i=vs.length:=by omega
   subst e;rw[cf] at hd;exact .inl ⟨rd.st H2 hs,hq D H2 hD hs hd⟩
theorem gZ {J:It}{vs:List V}{tc:TT}{te:TE}{σ:St}{H:Hp}{Q:VK}(p:V->Bool)(f:V->V)(rd:kA J H vs)(hn:vs.length<=sizeLine)
  (ht:∀ x H',x∈vs->aK H H'->∀ N:Bool->Hp->Prop,(∀ H'',aK H' H''->N (p x) H'')->tc (some x::σ) H' N)
  (he:∀ x H',x∈vs->p x=true->aK H H'->∀ N:V->Hp->Prop,(∀ H'',aK H' H''->N (f x) H'')->te (some x::σ) H' N)
  (hq:∀ D H',H D=none->aK H H'->H' D=some (.lst ((vs.filter p).map f))->Q (.ref D) H'):eQ tc te σ Q J H:=by
 intro D hD;refine⟨fun i m ys H2=>m=vs.length-i∧i<=vs.length∧ys=((vs.take i).filter p).map f∧aK H H2∧H2 D=some (.lst ys),⟨vs.length,rfl,b6 _,rfl,fun b o e=>?_,aD⟩,?_⟩
 ·rw[aM (aO e hD)]
  exact e
 ·rintro i m ys H2 ⟨rfl,hi,rfl,hs,hd⟩
  by_cases hlt:i<vs.length
  ·have hx:vs[i]?=some vs[i]:=aa hlt
   refine .inr ⟨rd.go i H2 hs hlt,by have:=jX p vs i;rw[aR];omega,fun v H'=>v=f vs[i]∧p vs[i]=true∧aK H2 H',fun v H' ⟨ev,hp,hs'⟩=>⟨hs' D _ hd,vs.length-(i+1),by omega,rfl,hlt,?app,fun b o e=>?kp,aD⟩,
    fun H'=>p vs[i]=false∧aK H2 H',fun H' ⟨hp,hs'⟩=>⟨vs.length-(i+1),by omega,rfl,hlt,?skp,fun b o e=>hs' b o (hs b o e),hs' D _ hd⟩,fun y H' hy=>?stp⟩
   case app =>
    rw[ev,iD p vs i _ hx,hp,bc];rfl
   case kp =>
    rw[aM (aO e hD)];exact hs' b o (hs b o e)
   case skp =>
    rw[iD p vs i _ hx,hp];simp
   case stp =>
    obtain⟨rfl,e2⟩:=rd.yl i H2 y H' hs hy;have e4:y=vs[i]:=by rw[hx] at e2;exact (a8 e2).symm
    subst e4;refine ht _ _ (cy hlt) hs _ fun H'' h''=>?_
    by_cases hp:p vs[i]=true
    ·rw[if_pos hp]
     exact he _ _ (cy hlt) hp (hs.trans h'') _ fun H3 h3=>⟨rfl,hp,h''.trans h3⟩
    ·rw[if_neg hp]
     exact⟨by simpa using hp,h''⟩
  ·have e:i=vs.length:=by omega
   subst e;rw[cf] at hd;exact .inl ⟨rd.st H2 hs,hq D H2 hD hs hd⟩
def unT:V->List Nat
 | .str x=>x.cps.toList
 | _=>[]
theorem cS (l:List Nat):unT (T l)=l:=cW l
section
variable {X:Cx}
theorem sH (K:ae)(h:X.K=K):OpR X (compareOp .In) (rIn K false):=by subst h;exact Kt
theorem vG (K:ae)(h:X.K=K):OpR X (compareOp .NotIn) (rIn K true):=by subst h;exact jK
end
theorem fU {f:List Nat->V}(ls:List (List Nat)):(ls.map T).map (fun x=>f (unT x))=ls.map f:=by
 rw[bj];exact ay fun l _=>by show f (unT (T l))=f l;rw[cS]
theorem cO {p:List Nat->Bool}:∀ ls:List (List Nat),(ls.map T).filter (fun x=>p (unT x))=(ls.filter p).map T
 | []=>rfl
 | l::ls=>by
  rw[ap,cz,cz,cS,cO ls];split <;> rfl
end L2
namespace SS
open PySem PyProof.Rows L2
section
variable {prog:Program}{w:World}{A:Around}{E:Value->Shared->Prop}{s:Shared}
theorem Mj {a:Addr}{Q:Bool->Shared->Prop}(hS:s.TypeIs (.ref a) "dict")(h:Q false s):wpAny (model prog w) A (Builtin.List.listLengthHint (.ref a)) Q E s:=by
 unfold Builtin.List.listLengthHint;refine wpAny_bind (wpAny_specialOf hS F.slot_dict_len.lookup ?_);generalize hid:("dict.__len__" : String)=id0
 wp_delta
 rw[show splitId id0=some ("dict", "__len__") from by subst hid;decide +kernel]
 subst hid;refine wpAny_bind (wpAny_isInstance (T := "dict") (b:=true) hS F.sub_dict_dict ?_)
 refine wpAny_ite_split (fun hab=>absurd hab (by decide)) (fun _=>?_);refine wpAny_ite_split (fun _=>?_) (fun hab=>absurd (by decide +kernel) hab);refine wpAny_bind (wpAny_typeOf hS ?_);exact wpAny_pure h
def wH (vs:List (Key×Value))(i:Nat)(v:Value):Prop:=∃ k x,vs[i]?=some (k,x)∧tY k v=true
theorem tM {h:Heap}{a:Addr}{vs:List (Key×Value)}{ep:Nat}{ob:Obj}(hD:Heap.DictAt (bD prog w) h a vs ep):Heap.DictAt (bD prog w) (h.push ob) a vs ep:=by
 obtain⟨o,es,g,r⟩:=hD;exact⟨o,es,Heap.get?_push_of_some _ g,r⟩
theorem Pk {a:Addr}{vs:List (Key×Value)}{ep:Nat}(hD:Heap.DictAt (bD prog w) s.heap a vs ep):s.TypeIs (.ref a) "dict" := by
 obtain⟨o,es,g,r⟩:=hD;exact (show Heap.DictOf (bD prog w) s.heap a vs from ⟨o,es,ep,g,r⟩).typeIs
theorem sE {a:Addr}{vs:List (Key×Value)}{ep:Nat}{R:Result->Shared->Prop}(hh:A.handled=none)(hd:(a==sysModules)=false)(hD:Heap.DictAt (bD prog w) s.heap a vs ep)(hz:vs.length<=sizeLine)(S:Addr)(res:Value)(h1:S≠a)(hSl:s.heap.get? S=some { cls:=.type "list",data:=.seq #[] })
  (hR:∀ s' acc' c',(∀ b o,b≠S->s.heap.get? b=some o->s'.heap.get? b=some o)->s'.gens=s.gens->s'.os=s.os->s'.heap.get? S=some { cls:=.type "list",dict:=none,data:=.seq acc' c',slots:=#[] }->ItemsOf (wH vs) acc' vs.length->R (.ok (.ret res)) s') :
  wpAny (model prog w) A.in1 (Builtin.List.listExtendWith (.ref S) (.ref a) res)
   (fun fin s'=>match fin with | .done f=>R (.ok f) s' | .again c'=>c'.quiet=true∧codeAny (model prog w) A c' R s') (fun e s'=>R (.error e) s') s:=by
 unfold Builtin.List.listExtendWith;refine wpAny_bind (wpAny_typeOf (Pk hD) ?_);have g1:Builtin.List.listSameRef (.ref S) (.ref a)=false:=by simp[Builtin.List.listSameRef,h1]
 have g2:(Value.type "dict" == Value.type "list")=false:=by decide
 have g3:(Value.type "dict" == Value.type "tuple")=false:=by decide
 simp only [g1,g2,g3,ix,ck,if_false];refine wpAny_bind (wpAny_pyIter_dict hd hD ?_);have hlt:=Heap.lt_size hSl;have hal:a<s.heap.objs.size:=by obtain⟨o,es,g,r⟩:=hD;exact Heap.lt_size g
 generalize hio:({ cls:=Value.type "dict_keyiterator",data:=Data.fields #[Value.ref a,Value.int 0 0,Value.int (↑vs.length) 0,Value.int (↑ep) 0] }:Obj)=io
 have hIs:s.heap.objs.size<=s.heap.objs.size:=af _;have hSI:S≠s.heap.objs.size:=bb hlt;have haI:a≠s.heap.objs.size:=bb hal;have kp:∀ b o,s.heap.get? b=some o->(s.heap.push io).get? b=some o:=fun b o e=>Heap.get?_push_of_some _ e
 have W:=Walks.dictKeys (prog:=prog) (w:=w) (knd:=bD prog w) (A:=A.in1) hh s.heap.objs.size a haI vs ep;have hD2:Heap.DictAt (bD prog w) (s.heap.push io) a vs ep:=tM hD;have st0:(s.heap.push io).IsKeyIter s.heap.objs.size a 0 vs.length ep∧Heap.DictAt (bD prog w) (s.heap.push io) a vs ep:=by
  refine⟨⟨io,Heap.get?_push_size _ (by rw[<- hio];rfl),?_,?_⟩,hD2⟩
  ·rw[<- hio]
  ·rw[<- hio];rfl
 have hSf:S∉[s.heap.objs.size,a]:=by simp[hSI,h1]
 refine wpAny_bind (wpAny_holding (Mj (s:={ s with heap:=s.heap.push io }) (Pk (s:={ s with heap:=s.heap.push io }) hD2) ?_));have WS:=W.toS;have last:∀ (h0:Heap) (c0:Nat),(∀ b o,b≠S->(s.heap.push io).get? b=some o->h0.get? b=some o)->h0.get? S=some { cls:=.type "list",data:=.seq #[] c0 } ->
   wpAny (model prog w) A.in1 (again (.builtin "list.extend.loop" ⟨[.ref S,.ref s.heap.objs.size,res],[]⟩))
    (fun fin s'=>match fin with | .done f=>R (.ok f) s' | .again c'=>c'.quiet=true∧codeAny (model prog w) A c' R s') (fun e s'=>R (.error e) s') { s with heap:=h0 }:=fun h0 c0 hk0 hS0=>by
  refine wpAny_pure ⟨plainId_quiet F.plain_extend_loop _,codeAny_extend_loopS WS (by omega) S hSf res vs.length 0 _ #[] c0 rfl (b6 _) ?_ hS0 (ItemsOf.nil _) fun s' acc' c' hm hS' hacc=>?_⟩
  ·exact W.frame 0 (s.heap.push io) h0 st0 fun b hb o e=>hk0 b o (fun z=>hSf (z▸hb)) e
  ·refine hR s' acc' c' (fun b o hb e=>?_) hm.gens hm.os hS' hacc
   by_cases hbI:b=s.heap.objs.size
   ·subst hbI
    exact absurd (Heap.lt_size e) (ui.mpr hIs)
   ·exact hm.heap b o (by simp[hb,hbI]) (hk0 b o hb (kp b o e))
 refine wpAny_ite_split (fun _=>?_) (fun hab=>absurd (by decide +kernel) hab);refine wpAny_bind (wpAny_rule ?_);have hSl2:(s.heap.push io).get? S=some { cls:=.type "list",data:=.seq #[] }:=kp S _ hSl
 refine wpAny_bind (m:=((do updateSeq S (fun z=>z.push .none);updateSeq S (fun z=>z.pop)):Sem Unit)) (wpAny_bind (wpAny_updateSeq (s:={ s with heap:=s.heap.push io }) hSl2 rfl ?_));have k1:=Heap.get?_update_self (Obj.mapSeq (fun z=>z.push .none)) hSl2 rfl;refine wpAny_updateSeq k1 rfl ?_;have k2:=Heap.get?_update_self (Obj.mapSeq (fun z=>z.pop)) k1 rfl;exact last _ _ (fun b o hb e=>(Heap.get?_update_other _ _ (Ne.symm hb)).trans ((Heap.get?_update_other _ _ (Ne.symm hb)).trans e)) k2
theorem Ab {a:Addr}{vs:List (Key×Value)}{ep:Nat}{Q:List Value->Shared->Prop}(hh:A.handled=none)(hd:(a==sysModules)=false)(hD:Heap.DictAt (bD prog w) s.heap a vs ep)(hz:vs.length<=sizeLine)
  (hQ:∀ (s':Shared) (acc:Array Value),(∀ b o,s.heap.get? b=some o->s'.heap.get? b=some o)->s'.gens=s.gens->s'.os=s.os->ItemsOf (wH vs) acc vs.length->Q acc.toList s'):wpAny (model prog w) A (collect (.ref a)) Q E s:=by
 have hlt:a<s.heap.objs.size:=by obtain⟨o,es,g,r⟩:=hD;exact Heap.lt_size g
 unfold collect;refine wpAny_bind (wpAny_runValue (codeAny_builtin F.entry_proto_collect ?_));rw[Around.under_plainId F.plain_proto_collect];refine wpAny_bind (m:=newList []) (wpAny_newObj_type (wpAny_pure ⟨plainId_quiet F.plain_list_iadd _,codeAny_builtin F.entry_list_iadd ?_⟩));rw[Around.under_plainId F.plain_list_iadd];have hSl:(s.heap.push { cls:=.type "list",data:=.seq #[] }).get? s.heap.objs.size=some { cls:=.type "list",data:=.seq #[] }:=Heap.get?_push_size _ rfl
 have go:∀ R:Result->Shared->Prop,(∀ s' acc' c',(∀ b o,s.heap.get? b=some o->s'.heap.get? b=some o)->s'.gens=s.gens->s'.os=s.os->s'.heap.get? s.heap.objs.size=some { cls:=.type "list",dict:=none,data:=.seq acc' c',slots:=#[] }->ItemsOf (wH vs) acc' vs.length->R (.ok (.ret (.ref s.heap.objs.size))) s') ->
   wpAny (model prog w) A.in1 (Builtin.List.listExtendWith (.ref s.heap.objs.size) (.ref a) (.ref s.heap.objs.size))
    (fun fin s'=>match fin with | .done f=>R (.ok f) s' | .again c'=>c'.quiet=true∧codeAny (model prog w) A c' R s') (fun e s'=>R (.error e) s') { s with heap:=s.heap.push { cls:=.type "list",data:=.seq #[] } }:=fun R hR =>
  sE (A:=A) (s:={ s with heap:=s.heap.push { cls:=.type "list",data:=.seq #[] } }) hh hd (tM hD) hz s.heap.objs.size (.ref s.heap.objs.size) (g0 hlt) hSl
   fun s' acc' c' kp g1 g2 e1 e2=>hR s' acc' c' (fun b o e=>kp b o (bb (Heap.lt_size e)) (Heap.get?_push_of_some _ e)) g1 g2 e1 e2
 refine go (fun r s'=>match r with
  | .ok (.ret v)=>wpAny (model prog w) A (match v with
   | .ref a=>do
    match (<- load a).data with
    | .seq xs _=>pure xs.toList
    | _=>unsupported "internal:collect"
   | _=>unsupported "internal:collect") Q E s'
  | .ok _=>False
  | .error e=>E e s') fun s' acc' c' kp g1 g2 hS' e2=>?_
 refine wpAny_bind (m:=load s.heap.objs.size) (wpAny_load hS' (wpAny_pure ?_));exact hQ s' acc' kp g1 g2 e2
end
end SS
namespace L2
open PySem PyProof.Rows
def tKs (ls:List (List Nat))(v:V):List (Key×V):=ls.map fun t=>(b9 (tx t),v)
section
variable {X:Cx}
theorem Gq:∀ (ls:List Str) (us:List Value),us.length=ls.length->(∀ (i:Nat) (v:Value),us[i]?=some v->∃ x t,ls[i]?=some x∧v=Value.str x t)->StrsAre us ls
 | [],[],_,_=>.nil
 | [],_::_,h,_=>nomatch h
 | _::_,[],h,_=>nomatch h
 | y::ls,u::us,h,hp=>by
  obtain⟨x,t,e1,e2⟩:=hp 0 u rfl;have e3:y=x:=by simpa using e1
  rw[e2,<- e3];exact .cons _ _ (Gq ls us (by simpa using h) fun i v e=>by simpa using hp (i+1) v (by simpa using e))
theorem Nk:∀ {kvs:List (Key×V)} {vs:List (Key×Value)},KV kvs vs->vs.map (·.1)=kvs.map (·.1)
 | [],[],.nil=>rfl
 | _::_,_::_,.cons h r=>by rw[ap,ap,h.1,Nk r]
theorem xC {ls:List (List Nat)}{kvs:List (Key×V)}{vs:List (Key×Value)}{acc:Array Value}(hk:kvs.map (·.1)=ls.map fun t=>b9 (tx t))(r:KV kvs vs)(h:ItemsOf (SS.wH vs) acc vs.length):StrsAre acc.toList (ls.map tx):=by
 have e0:vs.map (·.1)=(ls.map tx).map b9:=by rw[Nk r,hk,bj];rfl
 have el:vs.length=ls.length:=by have:=congrArg gi e0;simpa using this
 refine Gq _ _ (by rw[bt,h.1,el,aR]) fun i v e=>?_
 obtain⟨k,x,g1,g2⟩:=h.2 i v (by rw[<- li];exact e);have g3:(vs.map (·.1))[i]?=some k:=by rw[ah,g1];rfl
 rw[e0,ah] at g3
 cases g4:(ls.map tx)[i]? with
 | none=>rw[g4] at g3;cases g3
 | some y =>
  rw[g4] at g3;obtain rfl:b9 y=k:=a8 g3;rcases cQ g2 with ⟨j,t,q1,_⟩ | ⟨z,t,q1,q2⟩
  ·cases q1
  ·cases q1
   exact⟨y,t,rfl,q2⟩
end
open PySem.Spec
namespace SE
section
variable {prog:Program}{w:World}{A:Around}{E:Value->Shared->Prop}{s:Shared}
end
end SE
section
variable {X:Cx}
end
section
variable {X:Cx}{pins:List (Addr×Obj)}{σ:List (Option V)}{H H':Hp}{s:Shared}{h':Heap}
theorem Inv.turnedL {t':Nat}{ch:List Addr}(I:Inv X pins σ H s)(k:∀ b o,b∉ch->s.heap.get? b=some o->h'.get? b=some o)(hf:∀ b∈ch,mR X pins H b):Inv X pins σ H { s with heap:=h',toks:=t' }:=by
 have nit:∀ b u,H b=some u->b∉ch:=fun b u e z=>by rw[(hf b z).1] at e;cases e
 refine I.step (g':=s.gens) (d':=s.drawn) (ch:=ch) (fun b hb=>?_) (fun b o _ _ hc e _=>k b o hc e) (fun b o _ _ hc e _=>⟨o.slots,k b o hc e⟩) (fun _ _ _ _ n=>n)
  (fun b o hc e=>⟨o,k b o hc e⟩) (fun _ _ e=>e) (fun _ _ _ e=>e) (fun b ps e=>⟨#[],by rw[e];simp⟩) (fun m hm=>?_) (fun b u e=>?_) I.bare
 ·obtain⟨f0,f1,f2,f3,f4,f5⟩:=hf b hb
  exact⟨f3,f1,f4,f5⟩
 ·obtain⟨o,es,ep,ho,r⟩:=hm
  exact⟨o,es,ep,k _ o (fun z=>(hf _ z).2.1 rfl) ho,r⟩
 ·refine (I.hok b u e).stay (fun c v hc q=>k c v ?_ q) (fun _ q=>q) fun _ _ q=>q
  rcases hc with z | z
  ·rw[z];exact nit b u e
  ·exact nit c _ z
end
def Itz (K:ae)(a b:Addr):It :=
 ⟨fun i H=>∃ xs ys x y,SqL K H a xs∧SqL K H b ys∧xs[i]?=some x∧ys[i]?=some y,
  fun i H x H'=>∃ (T:Addr) (u v:V),x = .ref T∧H T=none∧H'=upd H T (.tup [u,v])∧(∀ xs,SqL K H a xs->xs[i]?=some u)∧∀ ys,SqL K H b ys->ys[i]?=some v,
  fun i H=>∃ xs ys,SqL K H a xs∧SqL K H b ys∧(xs.length<=i∨ys.length<=i)⟩
theorem Nl {P:Program}{w:World}{K:ae}{elts:List Expr}{x1}{pos:Pos}{a b z TI TO i1 i2:Addr}(D:ZipApart z TI TO i1 i2 a b) :
  vB P w K (.Tuple elts x1 pos) (Itz K a b) [z,TI,TO,i1,i2] z (fun i h=>IsZip h z TI TO .none∧IsPair h TI (.ref i1) (.ref i2)∧(∃ u v,IsPair h TO u v)∧h.IsListIter i1 a i∧h.IsListIter i2 b i) where
 mem:=by simp
 obj:=fun i h st c hc=>by
  obtain⟨h1,h2,⟨u,v,h3⟩,⟨o4,e4,c4,d4⟩,⟨o5,e5,c5,d5⟩⟩:=st;simp only [ar,d8,or_false] at hc;rcases hc with rfl | rfl | rfl | rfl | rfl
  ·exact⟨_,h1,fun v z=>by cases z⟩
  ·exact⟨_,h2,fun v z=>by cases z⟩
  ·exact⟨_,h3,fun v z=>by cases z⟩
  ·exact⟨_,e4,fun v z=>by rw[d4] at z;cases z⟩
  ·exact⟨_,e5,fun v z=>by rw[d5] at z;cases z⟩
 keep:=fun i h h' st k=>by
  obtain⟨h1,h2,⟨u,v,h3⟩,h4,h5⟩:=st;exact⟨k z (by simp) _ h1,k TI (by simp) _ h2,⟨u,v,k TO (by simp) _ h3⟩,h4.at fun o e=>k i1 (by simp) o e,h5.at fun o e=>k i2 (by simp) o e⟩
 item:=by
  intro X hP hw hK hc i pins s σ H E I hf st hg;subst hP hw hK;obtain⟨xs,ys,x,y,hq1,hq2,hx,hy⟩:=hg;obtain⟨its,rv,p,hz⟩:=I.list hq1;obtain⟨its2,rv2,p2,hz2⟩:=I.list hq2;obtain⟨u,hu,ru⟩:=rv.get hx;obtain⟨v,hv,rv'⟩:=rv2.get hy;obtain⟨h1,h2,⟨c1,c2,h3⟩,h4,h5⟩:=st;refine wpAny_pyNext_zip_item D h1 h2 h3 h4 h5 p.isList p2.isList (x:=u) (y:=v) (by simpa using hu) (by simpa using hv) fun h' z1 z2 z3 z4 z5 z6 z7=>?_
  refine⟨_,rfl,wpAny_letOwnedTupleGo_zip (s:={ s with heap:=h' }) z1 fun h'' y1 y2=>?_⟩;have hT:H s.heap.objs.size=none:=I.hok.fresh (af _);have I1:Inv X pins σ (upd H s.heap.objs.size (.tup [x,y])) { s with heap:=s.heap.push { cls:=.type "tuple",data:=.seq #[u,v] },toks:=s.toks } :=
   I.laid (t':=s.toks) (fun b u e=>Heap.get?_push_of_some _ e) (af _) ⟨(by show 2<=sizeLine;rw[sizeLine_eq];decide),[u,v],.cons ru (.cons rv' .nil),⟨_,Heap.get?_push_size _ rfl,rfl,_,rfl⟩⟩
  have nf:∀ c∈[z,TI,TO,i1,i2],c≠s.heap.objs.size:=fun c hc e=>by
   have lt:∃ o,s.heap.get? c=some o:=by
    obtain⟨o4,e4,_⟩:=id h4;obtain⟨o5,e5,_⟩:=id h5;simp only [ar,d8,or_false] at hc;rcases hc with rfl | rfl | rfl | rfl | rfl
    ·exact⟨_,h1⟩
    ·exact⟨_,h2⟩
    ·exact⟨_,h3⟩
    ·exact⟨_,e4⟩
    ·exact⟨_,e5⟩
   obtain⟨o,ho⟩:=lt
   have:=Heap.lt_size ho
   rw[e] at this;exact ej _ this
  have hf1:∀ c∈[z,TI,TO,i1,i2],mR X pins (upd H s.heap.objs.size (.tup [x,y])) c:=fun c hc=>by
   obtain⟨f0,f⟩:=hf c hc;exact⟨by rw[aM (nf c hc)];exact f0,f⟩
  have I2:Inv X pins σ (upd H s.heap.objs.size (.tup [x,y])) { s with heap:=h'',toks:=s.toks } :=
   Inv.turnedL (s:={ s with heap:=s.heap.push { cls:=.type "tuple",data:=.seq #[u,v] },toks:=s.toks }) (t':=s.toks) (ch:=[z,TI,TO,i1,i2]) I1 (fun b o hb e=>by
    simp only [ar,d8,or_false,not_or] at hb;obtain⟨b1,b2,b3,b4,b5⟩:=hb;refine (y2.2 b b1).trans ?_;rcases Heap.get?_push_cases e with ⟨rfl,rfl⟩ | e
    ·exact z5
    ·exact z7 b o b1 b3 b4 b5 e) hf1
  refine⟨.ref s.heap.objs.size,_,I2,rfl,⟨s.heap.objs.size,x,y,rfl,hT,rfl,fun zs hzs=>by rw[I.list_inj hzs hq1];exact hx,fun zs hzs=>by rw[I.list_inj hzs hq2];exact hy⟩,⟨y1,?_,⟨u,v,?_⟩,?_,?_⟩,fun c hc=>(hf1 c hc).1⟩
  ·exact (y2.2 TI D.TIz).trans (z7 TI _ D.TIz D.TITO D.TIi1 D.TIi2 h2)
  ·exact (y2.2 TO D.TOz).trans z2
  ·exact z3.at fun o e=>(y2.2 i1 D.i1z).trans e
  ·exact z4.at fun o e=>(y2.2 i2 D.i2z).trans e
 done:=by
  intro X hP hw hK hc i pins s σ H E I hf st hg;subst hP hw hK;obtain⟨xs,ys,hq1,hq2,hl⟩:=hg;obtain⟨its,rv,p,hz⟩:=I.list hq1;obtain⟨its2,rv2,p2,hz2⟩:=I.list hq2;obtain⟨h1,h2,⟨c1,c2,h3⟩,h4,h5⟩:=st;have l1:=rv.length;have l2:=rv2.length;refine wpAny_pyNext_zip_end (I.ok.hd hc) D h1 h2 h3 h4 h5 p.isList p2.isList ?_ fun h' kk=>⟨rfl,?_⟩
  ·rcases hl with g | g
   ·exact .inl (by simp;omega)
   ·exact .inr (by simp;omega)
  ·exact I.turnedL (t':=s.toks) (ch:=[z,TI,TO,i1,i2]) (fun b o hb e=>by
    simp only [ar,d8,or_false,not_or] at hb;obtain⟨b1,b2,b3,b4,b5⟩:=hb;exact kk b o b1 b3 b4 b5 e) hf
 self:=fun _ _ _ _ _ st h=>wpAny_pyIter_zip st.1 h
section
variable {X:Cx}
def aAc (K:ae)(ta:TA):TI:=fun σ H R=>ta σ H fun xs H1=>∃ a b:Addr,xs=[.ref a,.ref b]∧(∃ us,SqL K H1 a us)∧(∃ vs,SqL K H1 b vs)∧R (Itz K a b) H1
theorem Xm {a b:Expr}{ta:TA}{p pos pos':Pos}{elts:List Expr}{x1}(hg:Gl X "zip")(hm:X.mg "zip" = none)(ha:PA X [a,b] ta)(hs:starEach [a,b] X.env=[(false,eval a X.env),(false,eval b X.env)]:=by rfl)(hs2:starEach [b] X.env=[(false,eval b X.env)]:=by rfl) :
  PI X (.Tuple elts x1 pos') (.Call (.Name "zip" p) [a,b] [] pos) (aAc X.K ta):=by
 intro pins s σ H R I h;refine Call_ (mO I hg hm boot_zip (ga (thn (ha pos pins s σ H _ I h) fun us s1 ⟨vs,H1,I1,r1,q1⟩=>?_) (by rw[hs,hs2]) (by rw[hs2];rfl)));obtain⟨l1,l2,e,⟨us1,hq1⟩,⟨us2,hq2⟩,q⟩:=q1;subst e
 cases r1 with
 | cons r rr =>
  cases rr with
  | cons r' rr =>
   cases rr;cases r;cases r';obtain⟨its,rv,p,hz⟩:=I1.list hq1;obtain⟨its2,rv2,p2,hz2⟩:=I1.list hq2;obtain⟨o1,ho1,_⟩:=id p.isList;obtain⟨o2,ho2,_⟩:=id p2.isList;refine call_zip_2 p.isList p2.isList fun h' z1 z2 z3 z4 z5 z6 z7=>?_
   refine wpAny_pyIter_zip (s:={ s1 with heap:=h' }) z1 ?_;have fr:∀ c,s1.heap.objs.size<=c->mR X pins H1 c:=fun c hc=>I1.fpOk hc (I1.hok.fresh hc)
   refine⟨s1.heap.objs.size+4,[s1.heap.objs.size+4,s1.heap.objs.size+2,s1.heap.objs.size+3,s1.heap.objs.size,s1.heap.objs.size+1],_,_,H1,rfl,I1.kept (t':=s1.toks) z7,Nl (zipApart_new (Heap.lt_size ho1) (Heap.lt_size ho2)),⟨z1,z2,⟨_,_,z3⟩,z4,z5⟩,fun c hc=>fr c ?_,q⟩;simp only [ar,d8,or_false] at hc;rcases hc with rfl | rfl | rfl | rfl | rfl
   ·exact g9 _ _
   ·exact g9 _ _
   ·exact g9 _ _
   ·exact af _
   ·exact g9 _ _
end
namespace ZS
section
variable {prog:Program}{w:World}{A:Around}{E:Value->Shared->Prop}{s:Shared}
end
end ZS
section
variable {X:Cx}
end
theorem on1 {α:Type}{C:List α->Prop}{us:List α}(h:us.length=1)(k:∀ a,C [a]):C us:=match us,h with | [a],_=>k a
theorem on2 {α:Type}{C:List α->Prop}{us:List α}(h:us.length=2)(k:∀ a b,C [a,b]):C us:=match us,h with | [a,b],_=>k a b
theorem on3 {α:Type}{C:List α->Prop}{us:List α}(h:us.length=3)(k:∀ a b c,C [a,b,c]):C us:=match us,h with | [a,b,c],_=>k a b c
theorem on4 {α:Type}{C:List α->Prop}{us:List α}(h:us.length=4)(k:∀ a b c d,C [a,b,c,d]):C us:=match us,h with | [a,b,c,d],_=>k a b c d
section
variable {X:Cx}
theorem Me {st:List Stmt}:PSs X st (fun _ _ _=>False):=fun _ _ _ _ _ _ h=>h.elim
theorem mD (ls:List (List Nat)):∀ k,k<ls.length->argBest (fun i j=>decide (ls.getD i []<ls.getD j [])) k<=k∧∀ i,i<=k->¬ ls.getD i []<ls.getD (argBest (fun i j=>decide (ls.getD i []<ls.getD j [])) k) []
 | 0,_=>⟨af _,fun i hi=>by
   obtain rfl:i=0:=(by omega);exact du _⟩
 | k+1,h=>by
  obtain⟨h1,h2⟩:=mD ls k (by omega);rw[argBest];by_cases c:ls.getD (k+1) []<ls.getD (argBest (fun i j=>decide (ls.getD i []<ls.getD j [])) k) []
  ·rw[if_pos (decide_eq_true c)]
   refine⟨af _,fun i hi z=>?_⟩;by_cases e:i=k+1
   ·subst e;exact du _ z
   ·exact h2 i (by omega) (lw z c)
  ·rw[if_neg (fun z=>c (of_decide_eq_true z))]
   refine⟨by omega,fun i hi z=>?_⟩;by_cases e:i=k+1
   ·subst e;exact c z
   ·exact h2 i (by omega) z
theorem pA {ls:List (List Nat)}{its:List Value}(r:bV (ls.map T) its){i:Nat}{v:Value}(h:its[i]?=some v):∃ t,i<ls.length∧v = .str (tx (ls.getD i [])) t:=by
 have hl:=r.length;rw[aR] at hl;have hi:i<ls.length:=by have:=(aw.mp h).1;omega
 have e:ls[i]?=some (ls.getD i []):=by rw[ai,aa hi];rfl
 obtain⟨u,e1,q1⟩:=r.get (show (ls.map T)[i]?=some (T (ls.getD i [])) by rw[ah,e];rfl);rw[h] at e1;cases e1;obtain⟨t,rfl⟩:=q1;exact⟨t,hi,rfl⟩
theorem Js (hc:X.calm=true):eA X (.builtin "min") (fun xs H Q=>∃ (p:Addr) (ls:List (List Nat)),xs=[.ref p]∧SqL X.K H p (ls.map T)∧ls≠[]∧∀ m∈ls,(∀ y∈ls,¬ y<m)->Q (T m) H):=by
 intro pins s σ H xs us Q I r h;obtain⟨p,ls,rfl,hq,hne,q⟩:=h;obtain⟨u,rfl,ru⟩:=eZ r;cases ru;obtain⟨its,rv,pl,_⟩:=I.list hq;have hl:=pl.isList;have hlen:=rv.length;rw[aR] at hlen;have hpos:0<ls.length:=cn.mpr hne;have hlt:p<s.heap.objs.size:=by obtain⟨_,e,_⟩:=hl;exact Heap.lt_size e
 refine call_min_walk (wpAny_pyIter_list hl ?_);refine⟨_,[s.heap.objs.size,p],[s.heap.objs.size],_,_,_,fun i j=>decide (ls.getD i []<ls.getD j []),rfl,Walks.list (A:=X.A.in1) (I.ok.hd hc) _ p (bb hlt) its.toArray,⟨⟨_,Heap.get?_push_size _ rfl,rfl,rfl⟩,hl.push _⟩,fun b hb=>?_,(by rw[az];omega),fun i j vi vj s' Q' E' hi hj h'=>?_,fun v h' tk hP hk=>?_⟩
 ·show b<(s.heap.push _).objs.size
  rw[Heap.size_push];simp only [ar,d8,or_false] at hb;rcases hb with rfl | rfl
  ·exact gj _
  ·exact dz hlt
 ·obtain⟨t,_,rfl⟩:=pA rv (by simpa using hi)
  obtain⟨t',_,rfl⟩:=pA rv (by simpa using hj);exact richCompare_gives (op:=.Lt) (typeIs_str s' _ t) (typeIs_str s' _ t') F.slot_str_lt F.entry_str_lt (F.args_str_lt_2 _ _) (gives_str_lt _ _ t t') (fun x=>nomatch x) (by rw[cW,cW];exact h')
 ·rw[az,show its.length=ls.length by omega] at hP
  obtain⟨b1,b2⟩:=mD ls (ls.length-1) (by omega);generalize argBest (fun i j=>decide (ls.getD i []<ls.getD j [])) (ls.length-1)=bi at hP b1 b2;obtain⟨t,hi,rfl⟩:=pA rv (i:=bi) (by rw[<- lh];exact hP);have e:ls[bi]?=some (ls.getD bi []):=by rw[ai,aa hi];rfl
  refine⟨T (ls.getD bi []),H,I.kept (old_kept hk),⟨t,rfl⟩,q _ (au e) fun y hy=>?_⟩;obtain⟨i,hi',rfl⟩:=List.mem_iff_getElem.mp hy
  have:=b2 i (by omega)
  rw[ai (l:=ls) (i:=i),aa hi'] at this;exact this
end
structure yM (N N':List Str)(sc scope:Scope)(x y2:Str):Prop where
 kind:scope.kind = .function
 cell:∀ y∈scope.names,y.2≠.cell
 names:∀ y∈scope.names,y.2 = .local->scope.names.lookup y.1=some .local
 var:scope.names.lookup x=some .local
 var2:scope.names.lookup y2=some .local
 ok:∀ y∈scope.names,y.2 = .free->sc.names.lookup y.1=some .cell∨sc.names.lookup y.1=some .free
 hd:N'[0]?=some x
 hd2:N'[1]?=some y2
 len:N'.length=N.length+2
 sub:∀ i,i<N.length->N'[i+2]?=N[i]?∨N'[i+2]?=some ("" : Str)
 noe:scope.names.lookup ("" : Str)=none
 nol:∀ y∈N'.tail.tail,scope.names.lookup y≠some .local
 nd:N'.Nodup
def xT (K:ae)(te:TE)(σ:St)(Q:VK)(J:It)(H1:Hp):Prop:=∀ D,H1 D=none->∃ W:Nat->Nat->List V->Hp->Prop,(∃ m,W 0 m [] (upd H1 D (.lst [])))∧∀ i m ys H2,W i m ys H2 ->
 (J.stop i H2∧Q (.ref D) H2)∨(J.go i H2∧ys.length<sizeLine∧∃ N:V->Hp->Prop,(∀ v H',N v H'->H' D=some (.lst ys)∧∃ m',m'<m∧W (i+1) m' (ys++[v]) (upd H' D (.lst (ys++[v])))) ∧
  ∀ y H',J.yld i H2 y H'->∃ (a:Addr) (u v:V),y = .ref a∧SqT K H' a [u,v]∧te (some u::some v::σ) H' N)
def Xj (K:ae)(wi:TI)(te:TE):TE:=fun σ H Q=>wi σ H (xT K te σ Q)
section
variable {X:Cx}{N':List Str}{scope:Scope}{x y2:Str}{px py py2 pt:Pos}{elt iter:Expr}{pos:Pos}{te:TE}{wi:TI}
theorem Ex (S:yM X.N N' X.env.scope scope x y2)(hc:X.calm=true)(he:∀ cl C s H fp,PE (bZ X N' scope cl C s H fp) elt te)
  {pins:List (Addr×Obj)} {σ:St} {H:Hp} {s:Shared} {Q:VK} {E:Value->Shared->Prop} {RR:Value->Addr->Result->Shared->Prop} {it:Addr} {fp:List Addr} {tn:Nat->Heap->Prop} {J:It}
  (I:Inv X pins σ H s) (T:vB X.prog X.w X.K (.Tuple [.Name x px,.Name y2 py] 0 pt) J fp it tn) (st:tn 0 s.heap) (f2:∀ b∈fp,mR X pins H b)
  (hw:xT X.K te σ Q J H)
  (hRR:∀ D C s' H',Inv X pins σ H' s'->(∃ m,s'.heap.Ns C m)->C≠X.env.locals->(∀ y c,X.env.cells.lookup y=some c->c≠C)->H' C=none->X.s₀.heap.objs.size<=C->(∀ p∈X.pn++pins,p.1≠C)->Q (.ref D) H'->RR (.ref D) C (.ok .next) s') :
  ∃ cl,closureFor scope X.env=pure cl∧wpAny (model X.prog X.w) X.A (newList []) (fun acc s₃=>wpAny (model X.prog X.w) X.A (newFunctionEnv scope X.env.globals cl [] X.env.qual none .none (some X.env)) (fun cenv s₄ =>
   codeAny (model X.prog X.w) X.A (.compStart (.ListComp elt [⟨.Tuple [.Name x px,.Name y2 py] 0 pt,iter,[],0⟩] scope pos) 0 (.ref it) acc { cenv with scope:=relabel scope X.env }) (RR acc cenv.locals) s₄) E s₃) E s:=by
 have hfree:∀ z∈scope.names,z.2 = .free->∃ c,X.env.cells.lookup z.1=some c:=fun z hz hk=>by
  rcases S.ok z hz hk with q | q
  ·exact I.ok.has z.1 (.inl q)
  ·exact I.ok.has z.1 (.inr q)
 refine⟨_,iH hfree,?_⟩;have clS:∀ y c,(cZ X.env.cells scope.names []).lookup y=some c->X.env.cells.lookup y=some c:=fun y c=>mV scope.names [] hfree fun q=>by cases q
 generalize hcl:cZ X.env.cells scope.names []=cl at clS;have clH:∀ y,scope.names.lookup y=some .free->∃ c,cl.lookup y=some c:=fun y hy=>by
  rw[<- hcl];exact uJ scope.names [] (eD hy)
 refine wpAny_newObj_type (wpAny_newFunctionEnv S.cell (by intro y hy;simp at hy) (fun h₁ hns₁ hsb₁=>?_) S.kind);have I3:Inv X pins σ (upd H s.heap.objs.size (.lst [])) { s with heap:=s.heap.push { cls:=.type "list",data:=.seq ([]:List Value).toArray } }:=I.lnew (t':=s.toks) .nil (b6 _)
 obtain⟨W,⟨m0,w0⟩,turn⟩:=hw s.heap.objs.size I.fresh
 dsimp only at hns₁ hsb₁ ⊢
 generalize hs3:({ s with heap:=s.heap.push { cls:=.type "list",data:=.seq ([]:List Value).toArray } }:Shared)=s3 at I3
 have hh3:s3.heap=s.heap.push { cls:=.type "list",data:=.seq ([]:List Value).toArray }:=by rw[<- hs3]
 have hsz3:s3.heap.objs.size=s.heap.objs.size+1:=by rw[hh3,Heap.size_push]
 rw[<- hh3] at hns₁ hsb₁ ⊢;have old:∀ b o,s3.heap.get? b=some o->h₁.get? b=some o:=fun b o e=>hsb₁.extBut b o (by have:=Heap.lt_size e;exact bb this) (Heap.get?_push_of_some _ e)
 have old0:∀ b o,s.heap.get? b=some o->h₁.get? b=some o:=fun b o e=>old b o (by rw[hh3];exact Heap.get?_push_of_some _ e)
 have CneL:s3.heap.objs.size≠X.env.locals:=g0 I3.lt;have CneC:∀ y c,X.env.cells.lookup y=some c->c≠s3.heap.objs.size:=fun y c e z=>by
  obtain⟨v,q⟩:=I3.cell y c e
  have:=q.lt
  rw[z] at this;exact absurd this (ej _)
 have CneP:∀ p∈X.pn++pins,p.1≠s3.heap.objs.size:=fun p hp z=>by
  have:=Heap.lt_size (I3.pin p hp).1
  rw[z] at this;exact absurd this (ej _)
 have CfreeH:∀ b o,s3.heap.get? b=some o->b<s3.heap.objs.size:=fun b o e=>by have:=Heap.lt_size e;exact this
 have fpLt:∀ b∈fp,b<s3.heap.objs.size:=fun b hb=>by
  obtain⟨o,e,_⟩:=T.obj 0 s.heap st b hb;rw[hsz3];exact dz (Heap.lt_size e)
 have fpD:∀ b∈fp,b≠s.heap.objs.size:=fun b hb=>by
  obtain⟨o,e,_⟩:=T.obj 0 s.heap st b hb;exact bb (Heap.lt_size e)
 have ok':(bZ X N' scope cl s3.heap.objs.size s3 (upd H s.heap.objs.size (.lst [])) fp).Ok:=by
  refine⟨I3.ok.mod,?_,I3.ok.glob,I3.ok.blt,af _,fun y z c h1 h2=>I3.ok.inj y z c (clS y c h1) (clS z c h2),fun y hy=>?_,fun y c hf=>(by cases hf),I3.ok.hd,I3.ok.frames,.inl rfl,fun b hb=>⟨bb (fpLt b hb),fun y c e=>(f2 b hb).2.2.2.2.1 y c (clS y c e)⟩,
   fun b o e=>I3.bs b o e,av I3.ok.bsz I3.sz,fun b o e hb=>?_,fun b hb z=>?_,I3.stack,I3.stkFree⟩
  ·show (relabel scope X.env).kind = .function
   exact S.kind
  ·have hy':(relabel scope X.env).names.lookup y=some .cell∨(relabel scope X.env).names.lookup y=some .free:=hy
   rw[cC] at hy'
   cases q:scope.names.lookup y with
   | none=>rw[q] at hy';rcases hy' with z | z <;> cases z
   | some k =>
     have hm:=eD q
     cases k with
     | free=>exact clH y q
     | cell=>exact absurd rfl (S.cell _ hm)
     | «local» => rw[q] at hy';rcases hy' with z | z <;> simp at z
     | globalExplicit=>rw[q] at hy';rcases hy' with z | z <;> simp at z
     | globalImplicit=>rw[q] at hy';rcases hy' with z | z <;> simp at z
  ·rcases (f2 b hb).2.2.2.1 with z | z
   · exact I.ok.noex b o e z
   · exact absurd (bx (Heap.lt_size e) (av I.ok.bsz z)) (ej _)
  ·rcases ar.mp (I3.stkSub b z) with q | q
   · exact (f2 b hb).2.1 q
   · exact (f2 b hb).2.2.1 q
 have fpOk':∀ {H':Hp},(∀ b∈fp,H' b=none)->∀ b∈fp,mR (bZ X N' scope cl s3.heap.objs.size s3 (upd H s.heap.objs.size (.lst [])) fp) pins H' b:=fun hn b hb =>
  ⟨hn b hb,bb (fpLt b hb),fun z=>by
   rcases ar.mp (I3.stkSub b z) with q | q
   · exact (f2 b hb).2.1 q
   · exact (f2 b hb).2.2.1 q,.inl hb,fun y c e=>(f2 b hb).2.2.2.2.1 y c (clS y c e),(f2 b hb).2.2.2.2.2⟩
 have I4:Inv (bZ X N' scope cl s3.heap.objs.size s3 (upd H s.heap.objs.size (.lst [])) fp) pins (none::none::σ) (upd H s.heap.objs.size (.lst [])) { s3 with heap:=h₁,toks:=s3.toks+([]:List (Str×Value)).length }:=by
  refine⟨ok',rfl,I3.bare,Un.kept old,⟨_,hns₁,fun i y v e1 e2 vis=>?_⟩,fun y c e=>?_,?_,fun y c e=>I3.freeC y c (clS y c e),fun p hp=>?_,I3.hok.kept old,?_⟩
  ·cases i with
   | zero=>cases e2
   | succ i =>
    cases i with
    | zero=>cases e2
    | succ i =>
     have e2':σ[i]?=some (some v):=by simpa using e2
     have hi:i<X.N.length:=by rw[<- I3.len];exact (aw.mp e2').1
     have vis':(relabel scope X.env).names.lookup y=some .local∨(relabel scope X.env).names.lookup y=some .cell∨(relabel scope X.env).names.lookup y=some .free:=vis;have e1':N'[i+2]?=some y:=e1;rcases S.sub i hi with q | q
     ·rw[e1'] at q
      have hy:X.N[i]?=some y:=q.symm;have hmem:y∈N'.tail.tail:=by
       rw[ph];exact⟨i,by rw[mz,mz];exact e1'⟩
      have hfr:scope.names.lookup y=some .free:=by
       rw[cC] at vis'
       cases q2:scope.names.lookup y with
       | none=>rw[q2] at vis';rcases vis' with z | z | z <;> cases z
       | some k =>
        cases k with
        | free=>rfl
        | cell=>exact absurd rfl (S.cell _ (eD q2))
        | «local» => exact absurd q2 (S.nol y hmem)
        | globalExplicit=>rw[q2] at vis';rcases vis' with z | z | z <;> simp at z
        | globalImplicit=>rw[q2] at vis';rcases vis' with z | z | z <;> simp at z
      have hok:=S.ok (y,.free) (eD hfr) rfl;obtain⟨m,hn,hl⟩:=I3.loc;have visX:Vis X.env.scope y:=by
       rcases hok with z | z
       ·exact .inr (.inl z)
       ·exact .inr (.inr z)
      obtain⟨u,r,l⟩:=hl i y v hy e2' visX;refine⟨u,r,.inr ⟨?_,?_⟩⟩
      ·show (relabel scope X.env).names.lookup y=some .cell∨(relabel scope X.env).names.lookup y=some .free
       rw[cC,hfr,jo];by_cases hcnd:(NameKind.free==NameKind.free&&X.env.scope.kind == .function&&X.env.kindOf y==some .cell)=true
       ·left
        rw[if_pos hcnd]
       ·right
        rw[if_neg hcnd]
      ·rcases l with ⟨k,_⟩ | ⟨k,c,e,z⟩
       ·have k':X.env.scope.names.lookup y=some .local:=k
        have hok':X.env.scope.names.lookup y=some .cell∨X.env.scope.names.lookup y=some .free:=hok;rw[k'] at hok';rcases hok' with z | z <;> cases z
       ·obtain⟨c',e'⟩:=clH y hfr
        have e3:=clS y c' e';rw[e] at e3;cases e3;obtain⟨o,ho,hd⟩:=z;exact⟨c,e',o,old c o ho,hd⟩
     ·rw[e1'] at q
      cases q;rw[cC,S.noe] at vis';rcases vis' with z | z | z <;> cases z
  ·obtain⟨v,o,ho,hd⟩:=I3.cell y c (clS y c e)
   exact⟨v,o,old c o ho,hd⟩
  ·show upd H s.heap.objs.size (.lst []) s3.heap.objs.size=none
   exact I3.hok.fresh (af _)
  ·obtain⟨e,n,ne,nf,d⟩:=I3.pin p hp
   refine⟨old _ _ e,n,CneP p hp,fun z=>?_,d⟩;rcases ar.mp (I3.stkSub p.1 z) with q | q
   · exact ne q
   · exact nf q
  ·show (none::none::σ).length=N'.length
   rw[S.len,aq,aq,I3.len]
 have st4:tn 0 h₁:=T.keep 0 s.heap h₁ st fun b _ o e=>old0 b o e
 have loop:∀ s₄:Shared,s₄ = { s3 with heap:=h₁,toks:=s3.toks+([]:List (Str×Value)).length } ->
   codeAny (model X.prog X.w) X.A (.compLoop (.ListComp elt [⟨.Tuple [.Name x px,.Name y2 py] 0 pt,iter,[],0⟩] scope pos) 0 (.ref it) (.ref s.heap.objs.size) (compEnvC scope cl s3.heap.objs.size X.env)) (RR (.ref s.heap.objs.size) s3.heap.objs.size) s₄:=by
  rintro s₄ rfl;refine kX (fun n s'=>∃ i v0 v1 ys H',Inv (bZ X N' scope cl s3.heap.objs.size s3 (upd H s.heap.objs.size (.lst [])) fp) pins (v0::v1::σ) H' s'∧tn i s'.heap∧(∀ b∈fp,H' b=none)∧W i n ys H') ?_ m0
   ⟨0,none,none,[],_,I4,st4,fun b hb=>by rw[aM (fpD b hb)];exact (f2 b hb).1,w0⟩
  rintro n s5 ⟨i,v0,v1,ys,H5,I5,st5,fr5,w5⟩;rcases turn i n ys H5 w5 with ⟨stop,qn⟩ | ⟨go,hz,N,hN,step⟩
  ·refine thn (T.done (bZ X N' scope cl s3.heap.objs.size s3 (upd H s.heap.objs.size (.lst [])) fp) rfl rfl rfl hc i pins s5 (v0::v1::σ) H5 (fun _ _=>False) I5 (fpOk' fr5) st5 stop) fun r s6 ⟨hr,I6⟩=>?_
   subst hr;have hch:∀ b∈fp,(b∈X.ex∨X.s₀.heap.objs.size<=b)∧b≠X.env.locals∧(∀ x c,X.env.cells.lookup x=some c->c≠b)∧∀ p∈X.pn++pins,p.1≠b:=fun b hb =>
     ⟨(f2 b hb).2.2.2.1,(f2 b hb).2.1,(f2 b hb).2.2.2.2.1,(f2 b hb).2.2.2.2.2⟩
   have I7:Inv X pins σ H5 s6:=I3.call' (ch:=fp) I6.os I6.base I6.hok I6.bare hch;obtain⟨m,hm,_⟩:=I6.loc;exact hRR s.heap.objs.size s3.heap.objs.size s6 H5 I7 ⟨m,hm⟩ CneL CneC I6.free (av I3.sz (af _)) CneP qn
  ·refine thn (T.item (bZ X N' scope cl s3.heap.objs.size s3 (upd H s.heap.objs.size (.lst [])) fp) rfl rfl rfl hc i pins s5 (v0::v1::σ) H5 (fun _ _=>False) I5 (fpOk' fr5) st5 go) fun r s6 ⟨u,hr,h6⟩=>?_
   subst hr;refine thn h6 fun _ s7 ⟨y,H7,I7,r7,y7,st7,fr7⟩=>?_
   have I7':=I7.pinned (fpOk' fr7) (T.obj _ _ st7);obtain⟨aT,u0,u1,e7,hT7,step7⟩:=step y H7 y7;have I7c:Inv (bZ X N' scope cl s3.heap.objs.size s3 (upd H s.heap.objs.size (.lst [])) fp) (pins++mW fp s7.heap) (v0::v1::σ) H7 s7:=I7';refine thn ((show PG _ _ _ from Cu (X:=bZ X N' scope cl s3.heap.objs.size s3 (upd H s.heap.objs.size (.lst [])) fp) (es:=[.Name x px,.Name y2 py]) (n:=2) hc
     (iS (bK (i:=0) S.nd S.hd (.inl (lookup_relabel_local S.var)) (.inr (lookup_relabel_local S.var))) (iS (bK (i:=1) S.nd S.hd2 (.inl (lookup_relabel_local S.var2)) (.inr (lookup_relabel_local S.var2))) zA)))
     _ s7 (v0::v1::σ) H7 y u (fun σ2 H2=>σ2=some u0::some u1::σ∧H2=H7) I7c r7 ⟨aT,[u0,u1],e7,hT7,rfl,u0,[u1],rfl,u1,[],rfl,rfl,rfl,rfl⟩) fun _ s8 ⟨σ8,H8,I8,e8,e8'⟩=>?_
   subst e8 e8';have I8':Inv (bZ X N' scope cl s3.heap.objs.size s3 (upd H s.heap.objs.size (.lst [])) fp) (pins++mW fp s7.heap) (some u0::some u1::σ) H8 s8:=I8;refine thn (he cl s3.heap.objs.size s3 (upd H s.heap.objs.size (.lst [])) fp _ s8 (some u0::some u1::σ) _ N I8' step7) fun w s9 ⟨v,H9,I9,r9,q9⟩=>?_
   obtain⟨hD9,m',hm,w9⟩:=hN v H9 q9;refine thn (gN _ s9 (some u0::some u1::σ) H9 (.ref s.heap.objs.size) [v] (.ref s.heap.objs.size) [w] (fun z H10=>z = .non∧H10=upd H9 s.heap.objs.size (.lst (ys++[v]))) I9 rfl (.cons r9 .nil) ⟨s.heap.objs.size,ys,v,rfl,rfl,hD9,hz,rfl,rfl⟩) fun _ s10 ⟨z,H10,I10,_,ez,e10⟩=>?_
   subst e10;refine⟨m',hm,i+1,some u0,some u1,ys++[v],_,I10.unpinned,T.keep _ _ _ st7 fun b hb o e=>(I10.pin (b,o) (br _ (br _ (eB hb e)))).1,fun b hb=>?_,w9⟩;obtain⟨o,e,d⟩:=T.obj _ _ st7 b hb;exact (I10.pin (b,o) (br _ (br _ (eB hb e)))).2.1
 exact codeAny_compStart_list (loop _ (by rw[<- hs3])) (T.self X.A 0 _ _ _ st4 (loop _ (by rw[<- hs3])))
end
theorem Oi {K:ae}{a b:Addr}{xs ys:List V}{te:TE}{σ:St}{H:Hp}{Q:VK}(f:V->V->V)(hx:SqL K H a xs)(hy:SqL K H b ys)(he:xs.length=ys.length)(hn:xs.length<=sizeLine)
  (hs:∀ (i:Nat) (x y:V) (H':Hp),xs[i]?=some x->ys[i]?=some y->aK H H'->∀ N:V->Hp->Prop,(∀ H'',aK H' H''->N (f x y) H'')->te (some x::some y::σ) H' N)
  (hq:∀ D H',H D=none->aK H H'->H' D=some (.lst (oy f xs ys))->Q (.ref D) H'):xT K te σ Q (Itz K a b) H:=by
 have hzl:(oy f xs ys).length=xs.length:=by rw[qj,<- he,Nat.min_self]
 intro D hD;refine⟨fun i m zs H2=>m=xs.length-i∧i<=xs.length∧zs=(oy f xs ys).take i∧aK H H2∧H2 D=some (.lst zs),⟨xs.length,rfl,b6 _,rfl,fun b o e=>?_,aD⟩,?_⟩
 ·rw[aM (aO e hD)]
  exact e
 ·rintro i m zs H2 ⟨rfl,hi,rfl,s2,hd⟩
  by_cases hlt:i<xs.length
  ·have h1:xs[i]?=some xs[i]:=aa hlt
   have h2:ys[i]?=some (ys[i]'(by omega)):=aa (by omega);refine .inr ⟨⟨xs,ys,_,_,s2.seq hx,s2.seq hy,h1,h2⟩,by rw[a6];omega,fun v H'=>v=f xs[i] (ys[i]'(by omega))∧aK H2 H',fun v H' ⟨ev,hs'⟩=>⟨hs' D _ hd,xs.length-(i+1),by omega,rfl,hlt,?app,fun b o e=>?kp,aD⟩,fun y H' hy'=>?stp⟩
   case app=>rw[ev,ca,lj,h1,h2];rfl
   case kp =>
    rw[aM (aO e hD)];exact hs' b o (s2 b o e)
   case stp =>
    obtain⟨T,u,v,rfl,hT,rfl,y1,y3⟩:=hy';have t2:aK H2 (upd H2 T (.tup [u,v])):=fun b o e=>by rw[aM (aO e hT)];exact e
    obtain rfl:=a8 ((y1 xs (s2.seq hx)).symm.trans h1);obtain rfl:=a8 ((y3 ys (s2.seq hy)).symm.trans h2);exact⟨T,_,_,rfl,SqT.of aD,hs i _ _ _ h1 h2 (s2.trans t2) _ fun H'' h''=>⟨rfl,t2.trans h''⟩⟩
  ·have e:i=xs.length:=by omega
   subst e;rw[cj (by omega)] at hd;exact .inl ⟨⟨xs,ys,s2.seq hx,s2.seq hy,.inl (af _)⟩,hq D H2 hD s2 hd⟩
section
variable {X:Cx}{pins:List (Addr×Obj)}{σ:St}{H H':Hp}{s s':Shared}{a:Addr}{cls:Value}{E:Value->Shared->Prop}
end
section
variable {X:Cx}{pins:List (Addr×Obj)}{σ:St}{H H':Hp}{s s':Shared}{a:Addr}{cls:Value}
end
section
variable {P:Program}{w:World}{K:ae}{mg:Str->Option Value}{base:Heap}{N:List Str}{qual:Str}{scope:Scope}{f:Addr}{cdv:Value}{A:Around}{outer:List Env}{s:Shared}{H:Hp}{E:XK}
end
section
variable {X:Cx}
end
section
variable {prog:Program}{w:World}{A:Around}{E:Value->Shared->Prop}{h:Heap}{g:Array GenState}{d:Drawn}{t:Nat}{os:OsState}
variable {nm q:Str}{Cl Ns:Addr}{bs tl:List Value}{hdct:Bool}{sn:List Str}{sub:List Value}{ab:Bool}{col:Option Bool}{dd:Option Addr}{k0 k1 k2 k3 k5:Option Value}
end
section
variable {M:Model}{A:Around}{E:Value->Shared->Prop}{s:Shared}{env:Env}
variable {nm q:Str}{Cl Ns:Addr}{bs tl:List Value}{hdct:Bool}{sn:List Str}{sub:List Value}{ab:Bool}{col:Option Bool}{dd:Option Addr}{k0 k1 k2 k3 k5:Option Value}{ni:String}
end
section
variable {X:Cx}
end
open PySem.Builtin PySem.Builtin.ObjectAttr
section
variable {prog:Program}{w:World}{A:Around}{E:Value->Shared->Prop}{K:ae}{C f a x0:Addr}{F:Str}{v:Value}{s:Shared}
end
section
variable {X:Cx}
end
end L2
namespace L2
open PySem PySem.Spec PyProof.Rows
section
variable {X:Cx}{pins:List (Addr×Obj)}{σ:St}{H:Hp}{s:Shared}{a C x0:Addr}{E:Value->Shared->Prop}{od:Option Addr}
end
section
variable {X:Cx}
end
namespace EX
open PySem.W PySem.Calls PySem.Builtin PySem.Builtin.ObjectAttr PySem.Builtin.Getset_descriptor
variable {prog:Program}{w:World}{A:Around}{E:Value->Shared->Prop}{s:Shared}{K:ae}{a C:Addr}
end EX
section
variable {X:Cx}
theorem Pc (K:ae)(hK:X.K=K){tg l:Expr}{tl:TE}(hl:PE X l tl):PI X tg l (Va K tl):=by
 subst hK;exact bH hl
theorem Lw (K:ae)(hK:X.K=K):MtR X "str.join" (fun x xs H Q=>x=T []∧∃ (p:Addr) (ls:List (List Nat)),xs=[.ref p]∧SqL K H p (ls.map T)∧ls.flatten.length<=sizeLine∧Q (T ls.flatten) H):=by
 subst hK;exact Ft
end
def Ite (K:ae)(a:Addr):It :=
 ⟨fun i H=>∃ xs x,SqL K H a xs∧xs[i]?=some x,
  fun i H x H'=>∃ (T:Addr) (u:V),x = .ref T∧H T=none∧H'=upd H T (.tup [.int (i:Nat),u])∧∀ xs,SqL K H a xs->xs[i]?=some u,
  fun i H=>∃ xs,SqL K H a xs∧xs.length<=i⟩
theorem Lg {P:Program}{w:World}{K:ae}{elts:List Expr}{x1}{pos:Pos}{a e it:Addr}(hne:e≠it) :
  vB P w K (.Tuple elts x1 pos) (Ite K a) [e,it] e (fun i h=>(∃ old,IsEnum h e it i old)∧h.IsListIter it a i) where
 mem:=by simp
 obj:=fun i h st c hc=>by
  obtain⟨⟨old,h1⟩,⟨o4,e4,c4,d4⟩⟩:=st;simp only [ar,d8,or_false] at hc;rcases hc with rfl | rfl
  ·exact⟨_,h1,fun v z=>by cases z⟩
  ·exact⟨_,e4,fun v z=>by rw[d4] at z;cases z⟩
 keep:=fun i h h' st k=>by
  obtain⟨⟨old,h1⟩,h4⟩:=st;exact⟨⟨old,k e (by simp) _ h1⟩,h4.at fun o e=>k it (by simp) o e⟩
 item:=by
  intro X hP hw hK hc i pins s σ H E I hf st hg;subst hP hw hK;obtain⟨xs,x,hq1,hx⟩:=hg;obtain⟨its,rv,p,hz⟩:=I.list hq1;obtain⟨u,hu,ru⟩:=rv.get hx;obtain⟨⟨old,h1⟩,h4⟩:=st;refine wpAny_pyNext_enum_item h1 h4 p.isList (x:=u) (by simpa using hu) hne fun h' z1 z2 z3 z4 z5=>?_
  refine⟨_,rfl,wpAny_letOwnedTupleGo_enum (s:={ s with heap:=h',toks:=s.toks+1 }) z1 fun h'' y1 y2=>?_⟩;have hT:H s.heap.objs.size=none:=I.hok.fresh (af _);have I1:Inv X pins σ (upd H s.heap.objs.size (.tup [.int (i:Nat),x])) { s with heap:=s.heap.push { cls:=.type "tuple",data:=.seq #[.int i s.toks,u] },toks:=s.toks+1 } :=
   I.laid (t':=s.toks+1) (fun b u e=>Heap.get?_push_of_some _ e) (af _) ⟨(by show 2<=sizeLine;rw[sizeLine_eq];decide),[.int i s.toks,u],.cons ⟨_,rfl⟩ (.cons ru .nil),⟨_,Heap.get?_push_size _ rfl,rfl,_,rfl⟩⟩
  have nf:∀ c∈[e,it],c≠s.heap.objs.size:=fun c hc e=>by
   have lt:∃ o,s.heap.get? c=some o:=by
    obtain⟨o4,e4,_⟩:=id h4;simp only [ar,d8,or_false] at hc;rcases hc with rfl | rfl
    ·exact⟨_,h1⟩
    ·exact⟨_,e4⟩
   obtain⟨o,ho⟩:=lt
   have:=Heap.lt_size ho
   rw[e] at this;exact ej _ this
  have hf1:∀ c∈[e,it],mR X pins (upd H s.heap.objs.size (.tup [.int (i:Nat),x])) c:=fun c hc=>by
   obtain⟨f0,f⟩:=hf c hc;exact⟨by rw[aM (nf c hc)];exact f0,f⟩
  have I2:Inv X pins σ (upd H s.heap.objs.size (.tup [.int (i:Nat),x])) { s with heap:=h'',toks:=s.toks+1 } :=
   Inv.turnedL (s:={ s with heap:=s.heap.push { cls:=.type "tuple",data:=.seq #[.int i s.toks,u] },toks:=s.toks+1 }) (t':=s.toks+1) (ch:=[e,it]) I1 (fun b o hb e=>by
    simp only [ar,d8,or_false,not_or] at hb;obtain⟨b1,b2⟩:=hb;refine (y2.2 b b1).trans ?_;rcases Heap.get?_push_cases e with ⟨rfl,rfl⟩ | e
    ·exact z3
    ·exact z5 b o b1 b2 e) hf1
  refine⟨.ref s.heap.objs.size,_,I2,rfl,⟨s.heap.objs.size,x,rfl,hT,rfl,fun zs hzs=>by rw[I.list_inj hzs hq1];exact hx⟩,⟨⟨_,by exact_mod_cast y1⟩,?_⟩,fun c hc=>(hf1 c hc).1⟩;exact z2.at fun o e=>(y2.2 it (Ne.symm hne)).trans e
 done:=by
  intro X hP hw hK hc i pins s σ H E I hf st hg;subst hP hw hK;obtain⟨xs,hq1,hl⟩:=hg;obtain⟨its,rv,p,hz⟩:=I.list hq1;obtain⟨⟨old,h1⟩,h4⟩:=st;have l1:=rv.length;refine wpAny_pyNext_enum_end (I.ok.hd hc) h1 h4 p.isList (by simp;omega) fun h' kk=>⟨rfl,?_⟩
  exact I.turnedL (t':=s.toks) (ch:=[e,it]) (fun b o hb e=>by
   simp only [ar,d8,or_false,not_or] at hb;exact kk b o hb.2 e) hf
 self:=fun A i s Q E st h=>wpAny_pyIter_enum st.1.choose_spec h
section
variable {X:Cx}
def Ys (K:ae)(ta:TA):TI:=fun σ H R=>ta σ H fun xs H1=>∃ a:Addr,xs=[.ref a]∧(∃ us,SqL K H1 a us)∧R (Ite K a) H1
theorem Ug {a:Expr}{ta:TA}{p pos pos':Pos}{elts:List Expr}{x1}(hg:Gl X "enumerate")(hm:X.mg "enumerate" = none)(ha:PA X [a] ta)(hs:starEach [a] X.env=[(false,eval a X.env)]:=by rfl) :
  PI X (.Tuple elts x1 pos') (.Call (.Name "enumerate" p) [a] [] pos) (Ys X.K ta):=by
 intro pins s σ H R I h;refine Call_ (mO I hg hm boot_enumerate (ga (thn (ha pos pins s σ H _ I h) fun us s1 ⟨vs,H1,I1,r1,q1⟩=>?_) (by rw[hs];rfl) (by rfl)));obtain⟨l1,e,⟨us1,hq1⟩,q⟩:=q1;subst e
 cases r1 with
 | cons r rr =>
  cases rr;cases r;obtain⟨its,rv,p,hz⟩:=I1.list hq1;refine call_enumerate_list p.isList fun h' z1 z2 z3 z4=>?_
  refine wpAny_pyIter_enum (s:={ s1 with heap:=h' }) z1 ?_;have fr:∀ c,s1.heap.objs.size<=c->mR X pins H1 c:=fun c hc=>I1.fpOk hc (I1.hok.fresh hc)
  refine⟨s1.heap.objs.size+1,[s1.heap.objs.size+1,s1.heap.objs.size],_,_,H1,rfl,I1.kept (t':=s1.toks) z4,Lg (Nat.succ_ne_self _),⟨⟨_,z1⟩,z2⟩,fun c hc=>fr c ?_,q⟩;simp only [ar,d8,or_false] at hc;rcases hc with rfl | rfl
  ·exact g9 _ _
  ·exact af _
theorem Pw {K:ae}{a:Addr}{xs:List V}{g:TG}{tb:TS}{D:kM}{σ:St}{H:Hp}(Pv:Nat->St->Hp->Prop)(h0:Pv 0 σ H)(hl:∀ i σ H,i<=xs.length->Pv i σ H->SqL K H a xs)
  (hs:∀ i x T σ H,xs[i]?=some x->H T=none->Pv i σ H->g (.ref T) σ (upd H T (.tup [.int (i:Nat),x])) fun σ2 H2=>tb { D with nx:=Pv (i+1),ct:=Pv (i+1),bk:=D.nx } σ2 H2) (hd:∀ σ H,Pv xs.length σ H->D.nx σ H) :
  ∃ W:Nat->Nat->St->Hp->Prop,(∃ m,W 0 m σ H)∧∀ i m σ H,W i m σ H ->
   ((Ite K a).stop i H∧D.nx σ H)∨((Ite K a).go i H∧∃ N:St->Hp->Prop,(∀ σ' H',N σ' H'->∃ m',m'<m∧W (i+1) m' σ' H')∧∀ x H',(Ite K a).yld i H x H'->g x σ H' fun σ2 H2=>tb { D with nx:=N,ct:=N,bk:=D.nx } σ2 H2):=by
 refine⟨fun i m σ H=>m=xs.length-i∧i<=xs.length∧Pv i σ H,⟨xs.length,by simp,b6 _,h0⟩,?_⟩;rintro i m σ H ⟨rfl,hi,p⟩;have q1:=hl i σ H hi p;by_cases hlt:i<xs.length
 ·refine .inr ⟨⟨xs,xs[i],q1,by simp[hlt]⟩,Pv (i+1),fun σ' H' p'=>⟨xs.length-(i+1),by omega,rfl,hlt,p'⟩,fun x H' y=>?_⟩
  obtain⟨T,u,rfl,hT,rfl,y1⟩:=y;exact hs i u T σ _ (y1 xs q1) hT p
 ·have e:i=xs.length:=by omega
  subst e;exact .inl ⟨⟨xs,q1,af _⟩,hd σ H p⟩
end
def Bg (i:Int):Prop:=i.natAbs<2 ^ 8000
theorem Bg.bits {i:Int}(h:Bg i):Builtin.Int.intBits i<=8000:=by
 unfold Builtin.Int.intBits;split
 ·exact b6 _
 ·rename_i hn
  have h0:i.natAbs≠0:=fun z=>hn (by rw[qy.mp z];rfl)
  exact (Nat.log2_lt h0).mpr h
theorem Bg.mulOk {i j:Int}(hi:Bg i)(hj:Bg j):IntMulOk i j:=by
 unfold IntMulOk Builtin.Int.intTooBig;have h1:=hi.bits;have h2:=hj.bits;have h3:(16000:Int)<=bitsLine:=by decide +kernel
 have h4:decide (((Builtin.Int.intBits i:Nat):Int)+((Builtin.Int.intBits j:Nat):Int)>(bitsLine:Int))=false:=decide_eq_false (by omega);rw[h4,jb];exact am
theorem Bg.noPylong {i j:Int}(hj:Bg j):Builtin.divisionGoesByPylong i j=false:=by
 unfold Builtin.divisionGoesByPylong
 have:¬ ((if (j==0)=true then 0 else j.natAbs.log2/30+1)>300):=by
  split
  ·decide
  ·rename_i hn
   have h0:j.natAbs≠0:=fun z=>hn (by rw[qy.mp z];rfl)
   have:=(Nat.log2_lt h0).mpr hj
   omega
 dsimp only
 rw[decide_eq_false this];rfl
section
variable {X:Cx}
theorem eE:OpR X (binaryOp .Mult) (rI (fun i j=>Bg i∧Bg j) fun i j=>.int (i*j)):=opI fun _ _ _ _ _ _ _ hc q=>mul_int q (hc.1.mulOk hc.2)
theorem Ql:OpR X (binaryOp .FloorDiv) (rI (fun _ j=>0<j∧Bg j) fun i j=>.int (i/j)):=opI fun i j _ _ _ _ _ hc q=>by
 have h1:(0:Int)<j:=hc.1;exact floordiv_int (by omega) (by rw[mo i (by omega)];exact q) (.inl hc.2.noPylong)
end
section
variable {X:Cx}{N':List Str}{scope:Scope}{x y2:Str}{px py py2 pt:Pos}{elt iter:Expr}{pos:Pos}{te:TE}{wi:TI}
theorem Qs (S:yM X.N N' X.env.scope scope x y2)(hc:X.calm=true)(hi:PI X (.Tuple [.Name x px,.Name y2 py2] 0 pt) iter wi)(he:∀ cl C s H fp,PE (bZ X N' scope cl C s H fp) elt te)
  (hs:∀ x,foldedSetIterable iter X.env x=pure x:=by intro _;rfl):PE X (.ListComp elt [⟨.Tuple [.Name x px,.Name y2 py2] 0 pt,iter,[],0⟩] scope pos) (Xj X.K wi te):=by
 intro pins s σ H Q I h;rw[eval_ListComp];have hfree:∀ z∈scope.names,z.2 = .free->∃ c,X.env.cells.lookup z.1=some c:=fun z hz hk=>by
  rcases S.ok z hz hk with q | q
  ·exact I.ok.has z.1 (.inl q)
  ·exact I.ok.has z.1 (.inr q)
 refine wpAny_comprehension_free (use:=none) rfl hs (iH hfree) S.kind S.names (thn (hi pins s σ H _ I h) fun xv s1 h1=>thn h1 fun itv s2 h2=>?_);obtain⟨it,fp,tn,J,H2,e,I2,T,st2,f2,hw⟩:=h2;subst e;obtain⟨cl,hcl,hrun⟩:=Ex (py:=py2) (pt:=pt) (elt:=elt) (iter:=iter) (pos:=pos) (px:=px) (E:=X.xe) (RR:=fun acc C=>compPost (model X.prog X.w) X.A X.xe none (EP X pins σ Q) acc C) S hc he I2 T st2 f2 hw (fun D C s' H' I' ⟨m,hm⟩ n1 n2 n3 n4 n5 q =>
  ⟨m,hm,fun h' hsb=>⟨.ref D,H',I'.turned (it:=C) (t':=s'.toks) (fun b o hb e=>(hsb.2 b hb).trans e) n3 n1 (.inr n4) n2 n5,rfl,q⟩⟩)
 have ecl:(pure (cZ X.env.cells scope.names []):Sem (List (Str×Addr)))=pure cl:=(iH hfree).symm.trans hcl;have ecl':cZ X.env.cells scope.names []=cl:=by
  injection ecl
 rw[ecl'];exact hrun
end
section
variable {X:Cx}
end
end L2
namespace SR
open PySem PyProof.Rows PySem.Spec
section
variable {prog:Program}{w:World}{A:Around}{E:Value->Shared->Prop}{s:Shared}
end
end SR
namespace L2
open PySem PyProof.Rows PySem.Spec
section
variable {X:Cx}
end
def tupIs (K:ae)(a:Addr)(ns:List Int):Bool :=
 match K.lookup a with
 | some o=>match o.cls,o.data with
  | .type "tuple",.seq its _=>decide (its.size<=1000)&&(its.toList.map fun v=>match v with | .int i _=>some i | _=>none)==ns.map some
  | _,_=>false
 | none=>false
theorem SqT.tupIs {K:ae}{a:Addr}{ns:List Int}{H:Hp}(h:tupIs K a ns=true):SqT K H a (ns.map V.int):=by
 unfold L2.tupIs at h
 cases hk:K.lookup a with
 | none=>rw[hk] at h;cases h
 | some o =>
  rw[hk] at h
  dsimp only at h
  split at h
  ·rename_i its n hc hd
   rw[c7,decide_eq_true_iff,beq_iff_eq] at h;refine .inr ⟨o,its,n,hk,hc,hd,av h.1 (by rw[sizeLine_eq];decide),?_⟩;have key:∀ (ns:List Int) (us:List Value),(us.map fun v=>match v with | .int i _=>some i | _=>none)=ns.map some->bV (ns.map V.int) us:=fun ns=>by
    induction ns with
    | nil =>
     intro us hu
     cases us with
     | nil=>exact .nil
     | cons u us=>cases hu
    | cons i ns ih =>
     intro us hu
     cases us with
     | nil=>cases hu
     | cons u us =>
      rw[ap,ap] at hu;obtain⟨h1,h2⟩:=jq hu;refine .cons ?_ (ih us h2);split at h1
      ·rename_i j t
       obtain rfl:=a8 h1;exact⟨_,rfl⟩
      ·cases h1
   exact key ns _ h.2
  ·cases h
section
variable {X:Cx}
theorem Cd (K:ae)(hK:X.K=K):OpR X (binaryOp .Add) (fun x y H Q=>∃ (l b:Addr) (xs zs:List V),x = .ref l∧y = .ref b∧SqL K H l xs∧SqL K H b zs∧xs.length+zs.length<=sizeLine∧∀ p,H p=none->Q (.ref p) (upd H p (.lst (xs++zs)))):=by
 subst hK;exact iB
end
def dO (K:ae)(H:Hp)(as:List Addr)(M:List (List Int)):Prop:=as.length=M.length∧∀ (i:Nat) (a:Addr) (r:List Int),as[i]?=some a->M[i]?=some r->SqL K H a (r.map V.int)
section
variable {K:ae}{H G:Hp}{as:List Addr}{M:List (List Int)}
theorem dO.on (h:dO K H as M)(s:aK H G):dO K G as M:=⟨h.1,fun i a r e1 e2=>s.seq (h.2 i a r e1 e2)⟩
theorem dO.at (h:dO K H as M){i:Nat}{v:V}(hv:(as.map V.ref)[i]?=some v):∃ (a:Addr) (r:List Int),v = .ref a∧M[i]?=some r∧SqL K H a (r.map V.int):=by
 rw[ah] at hv;obtain⟨a,ha,rfl⟩:=ba.mp hv;have hi:=(aw.mp ha).1;obtain⟨r,hr⟩:∃ r,M[i]?=some r:=⟨_,aa (by rw[<- h.1];exact hi)⟩;exact⟨a,r,rfl,hr,h.2 i a r ha hr⟩
theorem dO.sub (h:dO K H as M)(f:Nat->Nat)(bs:List Addr)(N:List (List Int))(hl:bs.length=N.length)(h1:∀ i b,bs[i]?=some b->as[f i]?=some b)(h2:∀ i r,N[i]?=some r->M[f i]?=some r):dO K H bs N:=⟨hl,fun i a r e1 e2=>h.2 (f i) a r (h1 i a e1) (h2 i r e2)⟩
theorem dO.erase (h:dO K H as M)(p:Nat):dO K H (as.eraseIdx p) (M.eraseIdx p) :=
 h.sub (fun i=>if i<p then i else i+1) _ _ (by rw[ir,ir,h.1]) (fun i b e=>by rw[ky] at e;split <;> simp_all) (fun i b e=>by rw[ky] at e;split <;> simp_all)
end
theorem aAE {K:ae}{J:It}{as:List Addr}{M:List (List Int)}{te:TE}{σ:St}{H:Hp}{Q:VK}(g:List Int->List Int)(rd:kA J H (as.map V.ref))(hR:dO K H as M)(hn:as.length<=sizeLine)
  (he:∀ a r H',r∈M->SqL K H' a (r.map V.int)->aK H H'->∀ N:V->Hp->Prop,(∀ c H'',aK H' H''->(H' c=none)->H'' c=some (.lst ((g r).map V.int))->N (.ref c) H'')->te (some (.ref a)::σ) H' N)
  (hq:∀ D bs H',H D=none->aK H H'->H' D=some (.lst (bs.map V.ref))->(∀ b∈bs,b≠D)->dO K H' bs (M.map g)->Q (.ref D) H'):gR te σ Q J H:=by
 intro D hD;refine⟨fun i m ys H2=>m=as.length-i∧i<=as.length∧aK H H2∧H2 D=some (.lst ys)∧∃ bs:List Addr,ys=bs.map V.ref∧bs.length=i∧∀ (j:Nat) (b:Addr) (r:List Int),bs[j]?=some b->M[j]?=some r->b≠D∧H2 b=some (.lst ((g r).map V.int)),⟨as.length,rfl,b6 _,fun b o e=>?_,aD,[],rfl,rfl,fun j b r e=>by simp at e⟩,?_⟩
 ·rw[aM (aO e hD)]
  exact e
 ·rintro i m ys H2 ⟨rfl,hi,hs,hd,bs,rfl,hl,hb⟩
  by_cases hlt:i<as.length
  ·have hlt':i<(as.map V.ref).length:=by rw[aR];exact hlt
   obtain⟨a,r,ha,hr,_⟩:=hR.at (i:=i) (v:=(as.map V.ref)[i]) (aa hlt');refine .inr ⟨rd.go i H2 hs hlt',by rw[aR];omega,fun v H'=>aK H2 H'∧∃ c,v = .ref c∧c≠D∧H' c=some (.lst ((g r).map V.int)),fun v H' ⟨hs',c,ev,hcD,hc⟩=>⟨hs' D _ hd,as.length-(i+1),by omega,rfl,hlt,fun b o e=>?kp,aD,bs++[c],?app,by rw[ak,hl];rfl,fun j b r' e1 e2=>?la⟩,fun y H' hy=>?stp⟩
   case app =>
    rw[ev,bc];rfl
   case kp =>
    rw[aM (aO e hD)];exact hs' b o (hs b o e)
   case la =>
    by_cases hj:j<bs.length
    ·rw[ig hj] at e1
     obtain⟨h1,h2⟩:=hb j b r' e1 e2;exact⟨h1,by rw[aM h1];exact hs' b _ h2⟩
    ·have hj':j=bs.length:=by
      have:=(aw.mp e1).1
      rw[ak,b7] at this;omega
     subst hj';rw[ia (af _),rj] at e1;obtain rfl:c=b:=a8 e1;rw[hl,hr] at e2;obtain rfl:=a8 e2;exact⟨hcD,by rw[aM hcD];exact hc⟩
   case stp =>
    obtain⟨rfl,e2⟩:=rd.yl i H2 y H' hs hy;obtain⟨a2,r2,rfl,hr2,hs2⟩:=(hR.on hs).at e2;rw[hr] at hr2;obtain rfl:=a8 hr2;exact he a2 r _ (au hr) hs2 hs _ fun c H'' s'' hc hc2=>⟨s'',c,rfl,fun z=>(by rw[z,hd] at hc;cases hc),hc2⟩
  ·have e:i=as.length:=by omega
   have hst:=rd.st H2 hs;rw[aR] at hst;subst e;have hlM:=hR.1;refine .inl ⟨hst,hq D bs H2 hD hs hd (fun b hb'=>?_) ⟨by rw[hl,aR,hlM],fun j b r e1 e2=>?_⟩⟩
   ·obtain⟨j,hj⟩:=fu hb'
    have hjl:=(aw.mp hj).1;exact (hb j b _ hj (aa (show j<M.length by omega))).1
   ·rw[ah] at e2
    obtain⟨r',hr',rfl⟩:=ba.mp e2;exact SqL.of (hb j b r' e1 hr').2
theorem Yv {K:ae}{J:It}{as:List Addr}{M:List (List Int)}{te:TE}{σ:St}{H:Hp}{Q:VK}(g:List Int->Int)(rd:kA J H (as.map V.ref))(hR:dO K H as M)(hn:as.length<=sizeLine)
  (he:∀ a r H',r∈M->SqL K H' a (r.map V.int)->aK H H'->∀ N:V->Hp->Prop,(∀ H'',aK H' H''->N (.int (g r)) H'')->te (some (.ref a)::σ) H' N)
  (hq:∀ D H',H D=none->aK H H'->H' D=some (.lst ((M.map g).map V.int))->Q (.ref D) H'):gR te σ Q J H:=by
 intro D hD;have hlM:=hR.1;refine⟨fun i m ys H2=>m=as.length-i∧i<=as.length∧aK H H2∧H2 D=some (.lst ys)∧ys=((M.take i).map g).map V.int,⟨as.length,rfl,b6 _,fun b o e=>?_,aD,rfl⟩,?_⟩
 ·rw[aM (aO e hD)]
  exact e
 ·rintro i m ys H2 ⟨rfl,hi,hs,hd,rfl⟩
  by_cases hlt:i<as.length
  ·have hlt':i<(as.map V.ref).length:=by rw[aR];exact hlt
   have hr:M[i]?=some (M[i]'(by omega)):=aa (by omega);refine .inr ⟨rd.go i H2 hs hlt',by rw[aR,aR,a6];omega,fun v H'=>v = .int (g (M[i]'(by omega)))∧aK H2 H',fun v H' ⟨ev,hs'⟩=>⟨hs' D _ hd,as.length-(i+1),by omega,rfl,hlt,fun b o e=>?kp,aD,?app⟩,fun y H' hy=>?stp⟩
   case app =>
    rw[ev,ca,hr,bc,bc];rfl
   case kp =>
    rw[aM (aO e hD)];exact hs' b o (hs b o e)
   case stp =>
    obtain⟨rfl,e2⟩:=rd.yl i H2 y H' hs hy;obtain⟨a2,r2,rfl,hr2,hs2⟩:=(hR.on hs).at e2;obtain rfl:=a8 (hr2.symm.trans hr);exact he a2 _ _ (au hr) hs2 hs _ fun H'' s''=>⟨rfl,s''⟩
  ·have e:i=as.length:=by omega
   have hst:=rd.st H2 hs;rw[aR] at hst;subst e;rw[cj (by omega)] at hd;exact .inl ⟨hst,hq D H2 hD hs hd⟩
section
variable {X:Cx}{pins:List (Addr×Obj)}{σ:St}{H:Hp}{s:Shared}{a:Addr}{kvs:List (Key×V)}{k:Key}{A:Around}{E:Value->Shared->Prop}
theorem Oc {v:V}{u r:Value}{Q:Value->Shared->Prop}(I:Inv X pins σ H s)(e:H a=some (.dK kvs))(ry:bE (kV k) u)(rv:bE v r)(hz:kvs.length<sizeLine)
  (h1:∀ x,eC kvs k=some x->∀ w' s',Inv X pins σ H s'->bE x w'->Q w' s') (h2:eC kvs k=none->∀ s',Inv X pins σ (upd H a (.dK (eV kvs k v))) s'->Q r s') :
  wpAny (model X.prog X.w) A (call (.builtin "dict.setdefault") [.ref a,u,r]) Q E s:=by
 obtain⟨z,hd,vs,rel,dd⟩:=kQ I.hok e;refine call_meetsIn me dd.typeIs PySem.F.entry_dict_setdefault (PySem.F.args_dict_setdefault_3 _ _ _) (kt_meets_setdefault (bD X.prog X.w) a (oA ry) hd r)
  ⟨vs,dd,by rw[<- rel.length];exact z,fun w' hw=>?_,fun hn h' dd' hs=>?_⟩
 ·cases l:eC kvs k with
  | none =>
   have:=jG.none_of (o:=valueAt vs k) (by rw[<- l];exact rel.val k)
   rw[this] at hw;cases hw
  | some x =>
   obtain⟨w2,hw2,rw2⟩:=jG.some_of (v:=x) (o:=valueAt vs k) (by rw[<- l];exact rel.val k);rw[hw] at hw2;obtain rfl:=a8 hw2;exact h1 x l w' _ (I.tok _) rw2
 ·have l:eC kvs k=none:=by
   cases l:eC kvs k with
   | none=>rfl
   | some x =>
    obtain⟨w2,hw2,_⟩:=jG.some_of (v:=x) (o:=valueAt vs k) (by rw[<- l];exact rel.val k);rw[hn] at hw2;cases hw2
  have he:∃ q,h'.get? a=some q:=let ⟨q,_,_,hq,_⟩:=dd';⟨q,hq⟩
  have hl:(eV kvs k v).length<=sizeLine:=by have:=iI kvs k v;omega
  exact h2 l _ (nL I (by rw[e];exact True.intro) hs he (yX hl hd (rel.put k rv) dd'))
end
def Yb (td ty tx:TE):TE:=fun σ H Q=>td σ H fun x H1=>∃ a,x = .ref a∧(∃ kvs,H1 a=some (.dK kvs))∧ty σ H1 fun y H2=>tx σ H2 fun z H3=>∃ kvs k,H3 a=some (.dK kvs)∧y=kV k∧kvs.length<sizeLine∧(∀ v,eC kvs k=some v->Q v H3)∧(eC kvs k=none->Q z (upd H3 a (.dK (eV kvs k z))))
section
variable {X:Cx}{o e f:Expr}{apos cpos:Pos}{td ty tx:TE}
theorem Dj (ho:PE X o td)(he:PE X e ty)(hf:PE X f tx)(m:M2 X o "setdefault" apos e f cpos):PE X (.Call (.Attribute o "setdefault" apos) [e,f] [] cpos) (Yb td ty tx):=by
 intro pins s σ H Q I h;refine wpAny_Call_method m.base m.few m.line kq me PySem.F.type_dict_setdefault (thn (ho pins s σ H _ I h) fun u s1 ⟨x,H1,I1,rx,a,ex,⟨kvs0,d⟩,q1⟩=>?_);subst ex;obtain rfl:u=Value.ref a:=rx;obtain⟨z0,hd0,vs0,rel0,dd0⟩:=kQ I1.hok d;refine⟨dd0.typeIs,fun b q=>?_,?_⟩
 ·cases q
  obtain⟨ob,_,_,g1,g2,_⟩:=dd0;exact⟨ob,g1,g2.2.1⟩
 rw[m.trees];refine Calls.callWith_builtin rfl (Calls.evalArgs_plain (Calls.spliced_cons (thn (he pins s1 σ H1 _ I1 q1) fun iv s2 ⟨y,H2,I2,ry,q2⟩ =>
  Calls.spliced_cons (thn (hf pins s2 σ H2 _ I2 q2) fun fv s3 ⟨z,H3,I3,rz,kvs,k,ea,ey,hz,q3,q4⟩=>Calls.spliced_nil ?_))))
 subst ey;exact Oc I3 ea ry rz hz (fun v l w' s4 I4 rw'=>⟨v,H3,I4,rw',q3 v l⟩) fun l s4 I4=>⟨z,_,I4,rz,q4 l⟩
end
end L2
namespace SS
open PySem PyProof.Rows L2
section
variable {prog:Program}{w:World}{A:Around}{E:Value->Shared->Prop}{s:Shared}
theorem Jl {a:Addr}{vs:List (Key×Value)}{ep:Nat}{R:Result->Shared->Prop}(hh:A.handled=none)(hd:(a==sysModules)=false)(hD:Heap.DictAt (bD prog w) s.heap a vs ep)(hz:vs.length<=sizeLine)(S:Addr)(h1:S≠a)(hS:s.heap.get? S=some { cls:=.type "list",data:=.seq #[] })
  (hR:∀ s' acc' c',(∀ b o,b≠S->s.heap.get? b=some o->s'.heap.get? b=some o)->s'.gens=s.gens->s'.os=s.os->s'.heap.get? S=some { cls:=.type "list",dict:=none,data:=.seq acc' c',slots:=#[] }->ItemsOf (wH vs) acc' vs.length->R (.ok (.ret .none)) s') :
  wpAny (model prog w) A.in1 (Builtin.«list.__init__» ⟨[.ref S,.ref a],[]⟩)
   (fun fin s'=>match fin with | .done f=>R (.ok f) s' | .again c'=>c'.quiet=true∧codeAny (model prog w) A c' R s') (fun e s'=>R (.error e) s') s:=by
 show wpAny _ _ (do let old <- Builtin.List.listItems (.ref S);Builtin.List.listUpdate (.ref S) (fun _=>#[]);letGo old.toList.reverse;Builtin.List.listExtendWith (.ref S) (.ref a) .none) _ _ s;refine wpAny_bind ?_;unfold Builtin.List.listItems;refine wpAny_bind (wpAny_seqItems hS rfl (wpAny_pure ?_));show wpAny _ _ (updateSeq S (fun _=>#[]) >>= fun _=>letGo (#[]:Array Value).toList.reverse >>= fun _=>Builtin.List.listExtendWith (.ref S) (.ref a) .none) _ _ s;refine wpAny_bind (wpAny_updateSeq hS rfl ?_);have hS₂:=Heap.get?_update_self (Obj.mapSeq (fun _=>(#[]:Array Value))) hS rfl;have oth:∀ b o,b≠S->s.heap.get? b=some o->(s.heap.update S (Obj.mapSeq (fun _=>(#[]:Array Value)))).get? b=some o :=
  fun b o hb e=>(Heap.get?_update_other _ _ (Ne.symm hb)).trans e
 refine wpAny_bind (wpAny_letGo ?_);have hD2:Heap.DictAt (bD prog w) (s.heap.update S (Obj.mapSeq (fun _=>(#[]:Array Value)))) a vs ep:=by
  obtain⟨o,es,g,r⟩:=hD;exact⟨o,es,oth a o (Ne.symm h1) g,r⟩
 refine sE (A:=A) (s:={ s with heap:=s.heap.update S (Obj.mapSeq (fun _=>(#[]:Array Value))) }) hh hd hD2 hz S .none h1 hS₂ fun s' acc' c' kp g1 g2 e1 e2=>?_
 exact hR s' acc' c' (fun b o hb e=>kp b o hb (oth b o hb e)) g1 g2 e1 e2
theorem rQ {a:Addr}{vs:List (Key×Value)}{ep:Nat}{Q:Value->Shared->Prop}(hh:A.handled=none)(hd:(a==sysModules)=false)(hD:Heap.DictAt (bD prog w) s.heap a vs ep)(hz:vs.length<=sizeLine)
  (hQ:∀ (s':Shared) (acc:Array Value) (c':Nat),(∀ b o,s.heap.get? b=some o->s'.heap.get? b=some o)->s'.gens=s.gens->s'.os=s.os->s'.heap.get? s.heap.objs.size=some { cls:=.type "list",dict:=none,data:=.seq acc c',slots:=#[] }->ItemsOf (wH vs) acc vs.length->Q (.ref s.heap.objs.size) s') :
  wpAny (model prog w) A (call (.type "list") [.ref a]) Q E s:=by
 have hlt:a<s.heap.objs.size:=by obtain⟨o,es,g,r⟩:=hD;exact Heap.lt_size g
 refine callType_codes (Q₁:=fun obj s₁=>obj = .ref s.heap.objs.size∧s₁ = { s with heap:=s.heap.push { cls:=.type "list",data:=.seq #[] } }) F.called_list (F.typeCall_list_1 _) F.entry_list_init
  (code_list_new _ ⟨rfl,rfl⟩) fun obj s₁ h₁=>?_
 obtain⟨rfl,rfl⟩:=h₁;have hS:(s.heap.push { cls:=.type "list",data:=.seq #[] }).get? s.heap.objs.size=some { cls:=.type "list",data:=.seq #[] }:=Heap.get?_push_size _ rfl
 refine⟨⟨_,hS,rfl⟩,F.args_list_init_2 _ _,Jl (A:=A.in1) (s:={ s with heap:=s.heap.push { cls:=.type "list",data:=.seq #[] } }) hh hd (tM hD) hz _ (g0 hlt) hS fun s' acc' c' kp g1 g2 e1 e2=>?_⟩
 exact⟨rfl,hQ s' acc' c' (fun b o e=>kp b o (bb (Heap.lt_size e)) (Heap.get?_push_of_some _ e)) g1 g2 e1 e2⟩
end
end SS
namespace L2
open PySem PyProof.Rows
section
variable {X:Cx}
theorem wZ:∀ {us:List Value} {ls:List (List Nat)},StrsAre us (ls.map tx)->bV (ls.map T) us
 | [],[],_=>.nil
 | u::us,l::ls,h=>by
  cases h with
  | cons x t r=>exact .cons ⟨_,rfl⟩ (wZ r)
theorem Fa (hc:X.calm=true):eA X (.type "list") (fun xs H Q=>∃ (p:Addr) (ls:List (List Nat)) (kvs:List (Key×V)),xs=[.ref p]∧H p=some (.dK kvs)∧kvs.map (·.1)=ls.map (fun t=>b9 (tx t))∧∀ (D:Addr),H D=none->Q (.ref D) (upd H D (.lst (ls.map T)))):=by
 intro pins s σ H xs us Q I r h;obtain⟨p,ls,kvs,rfl,hq,hk,q⟩:=h;obtain⟨u,rfl,ru⟩:=eZ r;cases ru;obtain⟨z,hd,vs,rel,dd⟩:=kQ I.hok hq;obtain⟨o,es,ep,rest⟩:=dd;have hl:ls.length=kvs.length:=by have:=congrArg gi hk;simpa using this.symm
 refine SS.rQ (vs:=vs) (ep:=ep) (I.ok.hd hc) hd ⟨o,es,rest⟩ (by rw[<- rel.length];exact z) fun s' acc c' kp g1 g2 e1 e2=>?_
 have hv:=wZ (xC hk rel e2);have hg:AllBare s'.gens:=by rw[g1];exact I.bare
 have hf:H s.heap.objs.size=none:=I.hok.fresh (af _);have new:cK X.prog X.w (upd H s.heap.objs.size (.lst (ls.map T))) s'.heap s.heap.objs.size (.lst (ls.map T)):=⟨by rw[aR,hl];exact z,acc.toList,c',hv,by simpa using e1⟩;exact⟨.ref s.heap.objs.size,_,I.call' (ch:=[]) g2 (Un.laid kp (af _) hf) (I.hok.laid kp (af _) new) hg (fun _ z=>nomatch z),rfl,q _ hf⟩
end
theorem Xi {K:ae}{J:It}{vs:List V}{te:TE}{σ:St}{H:Hp}{Q:VK}(g:V->List Int)(rd:kA J H vs)(hn:vs.length<=sizeLine)
  (he:∀ v H',v∈vs->aK H H'->∀ N:V->Hp->Prop,(∀ c H'',aK H' H''->H' c=none->H'' c=some (.lst ((g v).map V.int))->N (.ref c) H'')->te (some v::σ) H' N)
  (hq:∀ D bs H',H D=none->aK H H'->H' D=some (.lst (bs.map V.ref))->(∀ b∈bs,b≠D)->dO K H' bs (vs.map g)->Q (.ref D) H'):gR te σ Q J H:=by
 intro D hD;refine⟨fun i m ys H2=>m=vs.length-i∧i<=vs.length∧aK H H2∧H2 D=some (.lst ys)∧∃ bs:List Addr,ys=bs.map V.ref∧bs.length=i∧∀ (j:Nat) (b:Addr) (v:V),bs[j]?=some b->vs[j]?=some v->b≠D∧H2 b=some (.lst ((g v).map V.int)),⟨vs.length,rfl,b6 _,fun b o e=>?_,aD,[],rfl,rfl,fun j b r e=>by simp at e⟩,?_⟩
 ·rw[aM (aO e hD)]
  exact e
 ·rintro i m ys H2 ⟨rfl,hi,hs,hd,bs,rfl,hl,hb⟩
  by_cases hlt:i<vs.length
  ·obtain⟨r,hr⟩:∃ r,vs[i]?=some r:=⟨_,aa hlt⟩
   refine .inr ⟨rd.go i H2 hs hlt,by rw[aR];omega,fun v H'=>aK H2 H'∧∃ c,v = .ref c∧c≠D∧H' c=some (.lst ((g r).map V.int)),fun v H' ⟨hs',c,ev,hcD,hc⟩=>⟨hs' D _ hd,vs.length-(i+1),by omega,rfl,hlt,fun b o e=>?kp,aD,bs++[c],?app,by rw[ak,hl];rfl,fun j b r' e1 e2=>?la⟩,fun y H' hy=>?stp⟩
   case app =>
    rw[ev,bc];rfl
   case kp =>
    rw[aM (aO e hD)];exact hs' b o (hs b o e)
   case la =>
    by_cases hj:j<bs.length
    ·rw[ig hj] at e1
     obtain⟨h1,h2⟩:=hb j b r' e1 e2;exact⟨h1,by rw[aM h1];exact hs' b _ h2⟩
    ·have hj':j=bs.length:=by
      have:=(aw.mp e1).1
      rw[ak,b7] at this;omega
     subst hj';rw[ia (af _),rj] at e1;obtain rfl:c=b:=a8 e1;rw[hl,hr] at e2;obtain rfl:=a8 e2;exact⟨hcD,by rw[aM hcD];exact hc⟩
   case stp =>
    obtain⟨rfl,e2⟩:=rd.yl i H2 y H' hs hy;rw[hr] at e2;obtain rfl:=a8 e2;exact he r _ (au hr) hs _ fun c H'' s'' hc hc2=>⟨s'',c,rfl,fun z=>(by rw[z,hd] at hc;cases hc),hc2⟩
  ·have e:i=vs.length:=by omega
   have hst:=rd.st H2 hs;subst e;refine .inl ⟨hst,hq D bs H2 hD hs hd (fun b hb'=>?_) ⟨by rw[hl,aR],fun j b r e1 e2=>?_⟩⟩
   ·obtain⟨j,hj⟩:=fu hb'
    have hjl:=(aw.mp hj).1;exact (hb j b _ hj (aa (show j<vs.length by omega))).1
   ·rw[ah] at e2
    obtain⟨r',hr',rfl⟩:=ba.mp e2;exact SqL.of (hb j b r' e1 hr').2
section
variable {X:Cx}{pins:List (Addr×Obj)}{σ:List (Option V)}{H H':Hp}{s:Shared}
theorem Inv.reH (I:Inv X pins σ H s)(free:∀ b,H b=none->H' b=none)(tups:∀ b xs,X.H₀ b=some (.tup xs)->H' b=some (.tup xs))(frzs:∀ b o u,X.H₀ b=some (.frz o u)->H' b=some (.frz o u))(tbls:∀ b ps,X.H₀ b=some (.tbl ps)->∃ more,H' b=some (.tbl (ps++more)))
  (hok:HOk X.prog X.w H' s.heap):Inv X pins σ H' s :=
 ⟨I.ok,I.os,I.bare,⟨I.base.keep,I.base.slot,fun b o e n hx=>free b (I.base.free b o e n hx),I.base.there,tups,frzs,tbls⟩,I.loc,I.cell,free _ I.free,fun x c e=>free _ (I.freeC x c e),fun p hp=>⟨(I.pin p hp).1,free _ (I.pin p hp).2.1,(I.pin p hp).2.2⟩,hok,I.len⟩
theorem Ih {P:Program}{w:World}{h:Heap}{a:Addr}{u v:HO}(x:HOk P w H h)(ha:H a=some u)(h1:∀ y,u≠.own y)(h2:∀ xs,u≠.tup xs)(ok:cK P w H h a v):HOk P w (upd H a v) h:=by
 have ho:∀ y b,H b=some (.own y)->upd H a v b=some (.own y):=fun y b e=>by
  rw[aM (fun z=>by rw[z,ha] at e;exact h1 y (a8 e))];exact e
 have ht:∀ b xs,H b=some (.tup xs)->upd H a v b=some (.tup xs):=fun b xs e=>by
  rw[aM (fun z=>by rw[z,ha] at e;exact h2 xs (a8 e))];exact e
 intro b o e;by_cases c:b=a
 ·subst c
  rw[aD] at e;cases e;exact ok.stay (fun _ _ _ e=>e) (fun c=>ho b c) ht
 ·rw[aM c] at e
  exact (x b o e).stay (fun _ _ _ e=>e) (fun c=>ho b c) ht
theorem Inv.freeze {a:Addr}{kvs:List (Key×V)}(I:Inv X pins σ H s)(e:H a=some (.dK kvs)):∃ o,s.heap.get? a=some o∧Inv X pins σ (upd H a (.frz o (.dK kvs))) s:=by
 have hx:cK X.prog X.w H s.heap a (.dK kvs):=I.hok a _ e;obtain⟨o,ho⟩:∃ o,s.heap.get? a=some o:=by
  obtain⟨_,_,_,_,o,_,_,q,_⟩:=hx;exact⟨o,q⟩
 have ne:∀ b u,X.H₀ b=some u->H b=some u->(∀ k,u≠.dK k)->upd H a (.frz o (.dK kvs)) b=some u:=fun b u _ q n=>by
  rw[aM (fun z=>by rw[z,e] at q;exact n _ (a8 q).symm)];exact q
 refine⟨o,ho,I.reH (fun b n=>?_) (fun b xs q=>ne b _ q (I.base.tups b xs q) (fun k z=>nomatch z)) (fun b o' u q=>ne b _ q (I.base.frzs b o' u q) (fun k z=>nomatch z)) (fun b ps q=>?_) (Ih I.hok e (fun y z=>nomatch z) (fun xs z=>nomatch z) ⟨ho,hx⟩)⟩
 ·rw[aM (fun z=>by rw[z,e] at n;cases n)];exact n
 ·obtain⟨m,q'⟩:=I.base.tbls b ps q
  exact⟨m,by rw[aM (fun z=>by rw[z,e] at q';cases q')];exact q'⟩
theorem Inv.thaw {a:Addr}{o:Obj}{kvs:List (Key×V)}(I:Inv X pins σ H s)(e:H a=some (.frz o (.dK kvs)))(h0:X.H₀ a=none):Inv X pins σ (upd H a (.dK kvs)) s:=by
 obtain⟨_,hx⟩:cK X.prog X.w H s.heap a (.frz o (.dK kvs)):=I.hok a _ e;refine I.reH (fun b n=>?_) (fun b xs q=>?_) (fun b o' u q=>?_) (fun b ps q=>?_) (Ih I.hok e (fun y z=>nomatch z) (fun xs z=>nomatch z) hx)
 ·rw[aM (fun z=>by rw[z,e] at n;cases n)];exact n
 ·rw[aM (fun z=>by rw[z,h0] at q;cases q)];exact I.base.tups b xs q
 ·rw[aM (fun z=>by rw[z,h0] at q;cases q)];exact I.base.frzs b o' u q
 ·rw[aM (fun z=>by rw[z,h0] at q;cases q)];exact I.base.tbls b ps q
end
def Itk (a:Addr)(o:Obj)(kvs:List (Key×V)):It :=
 ⟨fun i H=>H a=some (.frz o (.dK kvs))∧i<kvs.length,fun i H x H'=>H'=H∧∃ kv,kvs[i]?=some kv∧x=kV kv.1,fun i H=>H a=some (.frz o (.dK kvs))∧kvs.length<=i⟩
theorem Oy {P:Program}{w:World}{k:Key}{u:Value}(h:(bD P w).is k u=true):bE (kV k) u:=by
 cases k with
 | inl i =>
  have h:Value.isInt i u=true:=h
  have:∃ t,u = .int i t:=by cases u <;> simp_all [Value.isInt]
  obtain⟨t,rfl⟩:=this;exact⟨t,rfl⟩
 | inr x =>
  obtain⟨t,rfl⟩:=Value.isStrOf_shape (show Value.isStrOf x u=true from h);exact⟨t,rfl⟩
theorem La {P:Program}{w:World}{K:ae}{tg:Expr}{a it:Addr}{o:Obj}{kvs:List (Key×V)}{vs:List (Key×Value)}{ep:Nat}(hK:KV kvs vs)(hd:∀ h:Heap,h.get? a=some o->h.DictAt (bD P w) a vs ep) :
  vB P w K tg (Itk a o kvs) [it] it (fun i h=>h.IsKeyIter it a i vs.length ep) where
 mem:=by simp
 obj:=fun i h st b hb=>by
  have e:b=it:=by simpa using hb
  subst e;obtain⟨o,e,c,d⟩:=st;exact⟨o,e,fun v z=>by rw[d] at z;cases z⟩
 keep:=fun i h h' st k=>st.at fun o e=>k it (by simp) o e
 item:=by
  intro X hP hw hK' hc i pins s σ H E I hf st hg;subst hP hw hK';obtain⟨ha,hi⟩:=hg;obtain⟨ho,_⟩:cK X.prog X.w H s.heap a (.frz o (.dK kvs)):=I.hok a _ ha;have hl:=hK.length;obtain⟨f0,f1,f2,f3,f4,f5⟩:=hf it (by simp);have hvi:vs[i]?=some vs[i]:=aa (by omega);have hki:kvs[i]?=some kvs[i]:=aa hi;have hkk:kvs[i].1=vs[i].1:=by
   have:=hK.keys
   have h1:(kvs.map (·.1))[i]?=(vs.map (·.1))[i]?:=by rw[this]
   rw[ah,ah,hki,hvi] at h1;exact a8 h1
  refine wpAny_pyNext_dict_item (k:=vs[i].1) (v:=vs[i].2) st (hd _ ho) hvi fun key h' hkey st' sb=>?_
  have I1:Inv X pins σ H { s with heap:=h' }:=I.turned (t':=s.toks) (fun b o hb e=>(sb.2 b hb).trans e) f0 f1 f3 f4 f5;exact⟨key,rfl,letGo_keyiter (s':={ s with heap:=h' }) st' ⟨kV kvs[i].1,H,I1,by rw[hkk];exact Oy hkey,⟨rfl,_,hki,rfl⟩,st',fun b hb=>(hf b hb).1⟩⟩
 done:=by
  intro X hP hw hK' hc i pins s σ H E I hf st hg;subst hP hw hK';obtain⟨ha,hi⟩:=hg;obtain⟨ho,_⟩:cK X.prog X.w H s.heap a (.frz o (.dK kvs)):=I.hok a _ ha;have hl:=hK.length;obtain⟨f0,f1,f2,f3,f4,f5⟩:=hf it (by simp);exact wpAny_pyNext_dict_end (I.ok.hd hc) st (hd _ ho) (bn (by omega)) fun h' eb=>⟨rfl,I.turned (t':=s.toks) (fun b o hb e=>eb b o hb e) f0 f1 f3 f4 f5⟩
 self:=fun _ _ _ _ _ st h=>wpAny_pyIter_keyiter st h
def Zo (td:TE):TI:=fun σ H R=>td σ H fun x H1=>∃ a kvs,x = .ref a∧H1 a=some (.dK kvs)∧∀ o,R (Itk a o kvs) (upd H1 a (.frz o (.dK kvs)))
section
variable {X:Cx}{tg:Expr}
theorem Hy {l:Expr}{tl:TE}(hl:PE X l tl):PI X tg l (Zo tl):=by
 intro pins s σ H R I h;refine thn (hl pins s σ H _ I h) fun v s1 ⟨x,H1,I1,r1,q1⟩=>?_
 obtain⟨a,kvs,e,ha,q⟩:=q1;subst e;cases r1;obtain⟨z,hsm,vs,rel,dd⟩:=kQ I1.hok ha;obtain⟨ep,dat⟩:=dd.dictAt;obtain⟨o,ho,I2⟩:=I1.freeze ha;refine wpAny_pyIter_dict hsm dat ?_;refine⟨s1.heap.objs.size,[s1.heap.objs.size],_,_,_,rfl,I2.kept (t':=s1.toks) fun b o e=>Heap.get?_push_of_some _ e,La rel (fun h e=>dat.at' fun o' e'=>by rw[ho] at e';rw[<- e'];exact e),⟨_,Heap.get?_push_size _ rfl,rfl,rfl⟩,fun b hb=>?_,q o⟩;have e:b=s1.heap.objs.size:=by simpa using hb
 subst e;exact I2.fpOk (af _) (I2.hok.fresh (af _))
def Yl (H₀:Hp)(t:TE):TE:=fun σ H Q=>t σ H fun v H'=>∃ a o kvs,H' a=some (.frz o (.dK kvs))∧H₀ a=none∧Q v (upd H' a (.dK kvs))
theorem Tc {e:Expr}{t:TE}(h:PE X e t):PE X e (Yl X.H₀ t):=by
 intro pins s σ H Q I hw;refine thn (h pins s σ H _ I hw) fun v s1 ⟨x,H1,I1,r1,a,o,kvs,ha,h0,q⟩=>?_
 exact⟨x,_,I1.thaw ha h0,r1,q⟩
end
theorem wR:∀ {kvs:List (Key×V)} {vs:List (Key×Value)} {i:Nat} {p:Key×V} {k:Key} {x:Value},KV kvs vs->kvs[i]?=some p->vs[i]?=some (k,x)->bE p.2 x
 | _,_,0,_,_,_,.cons r _,h1,h2=>by
  cases h1;cases h2;exact r.2
 | _,_,i+1,_,_,_,.cons _ t,h1,h2=>wR (i:=i) t h1 h2
def Vw (v a:Addr):HO:=.ext fun h=>h.IsValuesView v a
def Xn (td:TE):TE:=fun σ H Q=>td σ H fun x H1=>∃ a kvs,x = .ref a∧H1 a=some (.dK kvs)∧∀ v,H1 v=none->Q (.ref v) (upd H1 v (Vw v a))
section
variable {X:Cx}{o:Expr}{td:TE}{apos cpos:Pos}
theorem Bl (ho:PE X o td)(hbase:attributeBase o "values" X.env (eval o X.env)=eval o X.env:=by rfl)(hline:(apos.endLine==cpos.line)=true:=by rfl):PE X (.Call (.Attribute o "values" apos) [] [] cpos) (Xn td):=by
 intro pins s σ H Q I h;refine wpAny_Call_method0_late hbase hline (thn (ho pins s σ H _ I h) fun v s1 ⟨x,H1,I1,r1,a,kvs,ex,ha,q1⟩=>?_);subst ex;obtain rfl:v=Value.ref a:=r1;obtain⟨t1,t2,_⟩:=Op I1 (.inl ⟨kvs,.inl ha⟩);obtain⟨z,hsm,vs,rel,dd⟩:=kQ I1.hok ha;refine⟨"dict", "dict.values",kq,nq,PySem.F.type_dict_values,t1,t2,Calls.callWith_builtin rfl (PySem.evalArgs_none ?_)⟩
 refine call_meetsIn nq t1 PySem.F.entry_dict_values (PySem.F.args_dict_values_1 _) (meets_dict_values (bD X.prog X.w) a hsm) ⟨⟨vs,dd⟩,?_⟩;have hf:H1 s1.heap.objs.size=none:=I1.hok.fresh (af _);refine⟨.ref s1.heap.objs.size,_,I1.laid (t':=s1.toks) (fun _ _ q=>Heap.get?_push_of_some _ q) (af _) (o:=Vw s1.heap.objs.size a) ?_,rfl,q1 _ hf⟩;refine⟨⟨_,Heap.get?_push_size _ rfl,rfl,rfl⟩,⟨_,Heap.get?_push_size _ rfl⟩,fun h1 h2 ⟨o,e,r⟩ kk=>⟨o,kk o e,r⟩⟩
theorem xH (hc:X.calm=true):eA X (.builtin "sum") (fun xs H Q=>∃ (v a:Addr) (kvs:List (Key×V)) (ns:List Int),xs=[.ref v]∧H v=some (Vw v a)∧H a=some (.dK kvs)∧kvs.map (·.2)=ns.map V.int∧Q (.int ns.sum) H):=by
 intro pins s σ H xs us Q I r h;obtain⟨v,a,kvs,ns,rfl,hv,ha,hns,q⟩:=h;obtain⟨u,rfl,ru⟩:=eZ r;cases ru;obtain⟨hvw,_⟩:cK X.prog X.w H s.heap v (Vw v a):=I.hok v _ hv;obtain⟨z,hsm,vs,rel,dd⟩:=kQ I.hok ha;obtain⟨ep,dat⟩:=dd.dictAt;have hlen:=rel.length;have hnl:ns.length=kvs.length:=by rw[<- aR (f:=V.int),<- hns,aR]
 have hval:∀ (i:Nat) (k:Key) (x:Value),vs[i]?=some (k,x)->∃ t,x=Value.int (ns.getD i 0) t:=fun i k x e=>by
  have hil:i<vs.length:=(aw.mp e).1;obtain⟨p,hp,r⟩:∃ p,kvs[i]?=some p∧bE p.2 x:=by
   have hik:i<kvs.length:=by omega
   refine⟨kvs[i],aa hik,?_⟩;exact wR rel (aa hik) e
  have h1:(kvs.map (·.2))[i]?=(ns.map V.int)[i]?:=by rw[hns]
  rw[ah,ah,hp,aa (by omega)] at h1;have h2:=a8 h1;rw[show p.2=V.int ns[i] from h2] at r;obtain⟨t,rfl⟩:=r;exact⟨t,by rw[ai,aa (by omega)];rfl⟩
 have hsum:preSum (fun i=>ns.getD i 0) vs.length=ns.sum:=by rw[preSum_getD,cj (by omega)]
 refine call_sum_walkG (wpAny_pyIter_values hvw dat ⟨s.heap.objs.size,[s.heap.objs.size,a],[s.heap.objs.size],vs.length,_,_,fun i=>ns.getD i 0,rfl,Walks.dictValues (knd:=bD X.prog X.w) (A:=X.A.in1) (show X.A.in1.handled=none from I.ok.hd hc) s.heap.objs.size a (bb dat.lt_size) vs ep,⟨⟨_,Heap.get?_push_size _ rfl,rfl,rfl⟩,dat.push _⟩,?_,fun i v ⟨k,e⟩=>hval i k v e,fun h' tk t' hk=>?_⟩)
 ·intro b hb
  have hsz:((s.heap.push { cls:=.type "dict_valueiterator",data:=.fields #[.ref a,.int 0 0,.int vs.length 0,.int ep 0] })).objs.size=s.heap.objs.size+1:=by simp[Heap.push]
  have ha:=dat.lt_size;rcases ar.mp hb with rfl | hb
  ·rw[hsz];exact gj _
  ·rw[a7.mp hb,hsz];exact dz ha
 ·rw[hsum]
  exact⟨.int ns.sum,H,I.kept (fun b o e=>hk b o (by simp;exact bb (Heap.lt_size e)) (Heap.get?_push_of_some _ e)),⟨t',rfl⟩,q⟩
end
open PySem.Spec
section
variable {X:Cx}
end
end L2
namespace L2
open PySem PyProof.Rows
section
variable {X:Cx}{pins:List (Addr×Obj)}{σ:St}{H:Hp}{s:Shared}
end
section
variable {X:Cx}
end
theorem Az {a:Addr}{o:Obj}{kvs:List (Key×V)}{g:TG}{tb:TS}{D:kM}{σ:St}{H:Hp}(Pv:Nat->St->Hp->Prop)(h0:Pv 0 σ H)(hl:∀ i σ H,i<=kvs.length->Pv i σ H->H a=some (.frz o (.dK kvs)))
  (hs:∀ i kv σ H,kvs[i]?=some kv->Pv i σ H->g (kV kv.1) σ H fun σ2 H2=>tb { D with nx:=Pv (i+1),ct:=Pv (i+1),bk:=D.nx } σ2 H2) (hd:∀ σ H,Pv kvs.length σ H->D.nx σ H) :
  ∃ W:Nat->Nat->St->Hp->Prop,(∃ m,W 0 m σ H)∧∀ i m σ H,W i m σ H ->
   ((Itk a o kvs).stop i H∧D.nx σ H)∨((Itk a o kvs).go i H∧∃ N:St->Hp->Prop,(∀ σ' H',N σ' H'->∃ m',m'<m∧W (i+1) m' σ' H')∧∀ x H',(Itk a o kvs).yld i H x H'->g x σ H' fun σ2 H2=>tb { D with nx:=N,ct:=N,bk:=D.nx } σ2 H2):=by
 refine⟨fun i m σ H=>m=kvs.length-i∧i<=kvs.length∧Pv i σ H,⟨kvs.length,by simp,b6 _,h0⟩,?_⟩;rintro i m σ H ⟨rfl,hi,p⟩;have hA:=hl i σ H hi p;by_cases hlt:i<kvs.length
 ·refine .inr ⟨⟨hA,hlt⟩,Pv (i+1),fun σ' H' p'=>⟨kvs.length-(i+1),by omega,rfl,hlt,p'⟩,fun x H' hy=>?_⟩
  obtain⟨rfl,kv,e,rfl⟩:=hy;exact hs i kv σ _ e p
 ·have e:i=kvs.length:=by omega
  subst e;exact .inl ⟨⟨hA,af _⟩,hd σ H p⟩
open PySem.Spec
section
variable {M:Model}{A:Around}{E:Value->Shared->Prop}{s:Shared}
end
section
variable {X:Cx}{N':List Str}{scope:Scope}{x:Str}{px:Pos}{elt iter:Expr}{cds:List Expr}{pos:Pos}{te:TE}{tc:TT}{wi:TI}
end
theorem Dv {outer inner:Scope}(h:∀ y∈inner.names,y.2 = .free->outer.names.lookup y.1=some .cell∨outer.names.lookup y.1=some .free)(env:Env):∀ y∈inner.names,y.2 = .free->(relabel outer env).names.lookup y.1=some .cell∨(relabel outer env).names.lookup y.1=some .free:=fun y hy hk=>by
 rw[cC];rcases h y hy hk with z | z
 ·left
  rw[z,jo];rfl
 ·rw[z,jo]
  by_cases hcnd:(NameKind.free==NameKind.free&&env.scope.kind == .function&&env.kindOf y.1==some .cell)=true
  ·left
   rw[if_pos hcnd]
  ·right
   rw[if_neg hcnd]
section
variable {X:Cx}
end
section
variable {X:Cx}{N':List Str}{scope:Scope}{x:Str}{px:Pos}{elt iter cd:Expr}{pos:Pos}{te:TE}{tc:TT}{wi:TI}
end
theorem Xo {J:It}{vs:List V}{tc:TT}{te:TE}{σ:St}{H:Hp}{Q:VK}(p:V->Bool)(g:V->List V)(rd:kA J H vs)(hn:vs.length<=sizeLine)
  (ht:∀ x H',x∈vs->aK H H'->∀ N:Bool->Hp->Prop,(∀ H'',aK H' H''->N (p x) H'')->tc (some x::σ) H' N)
  (he:∀ x H',x∈vs->p x=true->aK H H'->∀ N:V->Hp->Prop,(∀ c H'',aK H' H''->H' c=none->H'' c=some (.lst (g x))->N (.ref c) H'')->te (some x::σ) H' N)
  (hq:∀ D bs H',H D=none->aK H H'->H' D=some (.lst (bs.map V.ref))->Dt.R2 (fun v b=>b≠D∧H b=none∧H' b=some (.lst (g v))) (vs.filter p) bs->Q (.ref D) H'):eQ tc te σ Q J H:=by
 intro D hD;refine⟨fun i m ys H2=>m=vs.length-i∧i<=vs.length∧aK H H2∧H2 D=some (.lst ys)∧∃ bs:List Addr,ys=bs.map V.ref∧Dt.R2 (fun v b=>b≠D∧H b=none∧H2 b=some (.lst (g v))) ((vs.take i).filter p) bs,⟨vs.length,rfl,b6 _,fun b o e=>?_,aD,[],rfl,.nil⟩,?_⟩
 ·rw[aM (aO e hD)]
  exact e
 ·rintro i m ys H2 ⟨rfl,hi,hs,hd,bs,rfl,hb⟩
  by_cases hlt:i<vs.length
  ·have hx:vs[i]?=some vs[i]:=aa hlt
   have hbl:bs.length<=i:=by have:=hb.len;have:=jX p vs i;omega
   refine .inr ⟨rd.go i H2 hs hlt,by rw[aR];omega,fun v H'=>p vs[i]=true∧aK H2 H'∧∃ c,v = .ref c∧c≠D∧H c=none∧H' c=some (.lst (g vs[i])),fun v H' ⟨hp,hs',c,ev,hcD,hcn,hc⟩=>⟨hs' D _ hd,vs.length-(i+1),by omega,rfl,hlt,fun b o e=>?kp,aD,bs++[c],?app,?la⟩,
    fun H'=>p vs[i]=false∧aK H2 H',fun H' ⟨hp,hs'⟩=>⟨vs.length-(i+1),by omega,rfl,hlt,fun b o e=>hs' b o (hs b o e),hs' D _ hd,bs,rfl,?skp⟩,fun y H' hy=>?stp⟩
   case app =>
    rw[ev,bc];rfl
   case kp =>
    rw[aM (aO e hD)];exact hs' b o (hs b o e)
   case la =>
    rw[iD p vs i _ hx,hp];refine Dt.R2.snoc (hb.mono fun v b _ ⟨h1,h0,h2⟩=>⟨h1,h0,by rw[aM h1];exact hs' b _ h2⟩) ⟨hcD,hcn,by rw[aM hcD];exact hc⟩
   case skp =>
    rw[iD p vs i _ hx,hp];rw[show (if false=true then [vs[i]] else [])=[] from rfl,df];exact hb.mono fun v b _ ⟨h1,h0,h2⟩=>⟨h1,h0,hs' b _ h2⟩
   case stp =>
    obtain⟨rfl,e2⟩:=rd.yl i H2 y H' hs hy;have e4:y=vs[i]:=by rw[hx] at e2;exact (a8 e2).symm
    subst e4;refine ht _ _ (cy hlt) hs _ fun H'' h''=>?_
    by_cases hp:p vs[i]=true
    ·rw[if_pos hp]
     refine he _ _ (cy hlt) hp (hs.trans h'') _ fun c H3 h3 hc1 hc2=>⟨hp,h''.trans h3,c,rfl,fun z=>?_,?_,hc2⟩
     ·rw[z,h'' D _ hd] at hc1;cases hc1
     ·cases e:H c with
      | none=>rfl
      | some o=>rw[h'' c o (hs c o e)] at hc1;cases hc1
    ·rw[if_neg hp]
     exact⟨by simpa using hp,h''⟩
  ·have e:i=vs.length:=by omega
   subst e;rw[cf] at hb;exact .inl ⟨rd.st H2 hs,hq D bs H2 hD hs hd hb⟩
end L2
namespace L2
open PySem PyProof.Rows
def SqA (K:ae)(H:Hp)(a:Addr)(xs:List V):Prop:=SqL K H a xs∨SqT K H a xs
theorem SqA.on {K:ae}{H H':Hp}{a:Addr}{xs:List V}(h:SqA K H a xs)(s:aK H H'):SqA K H' a xs:=h.elim (fun h=>.inl (s.seq h)) fun h=>.inr (qD s h)
def iSq (K:ae)(tl:TE):TI:=fun σ H R=>tl σ H fun x H1=>∃ a xs H0,x = .ref a∧SqA K H0 a xs∧aK H0 H1∧∀ J,kA J H0 xs->R J H1
section
variable {X:Cx}{tg:Expr}
theorem Xz {l:Expr}{tl:TE}(hl:PE X l tl):PI X tg l (iSq X.K tl):=by
 intro pins s σ H R I h;refine thn (hl pins s σ H _ I h) fun v s1 ⟨x,H1,I1,r1,q1⟩=>?_
 obtain⟨a,xs,H0,e,hq0 | hq0,s0,q0⟩:=q1
 ·have hq:=s0.seq hq0
  have q:=q0 _ (bC hq0);subst e;cases r1;obtain⟨its,rv,p,hz⟩:=I1.list hq;refine wpAny_pyIter_list p.isList ?_;refine⟨s1.heap.objs.size,[s1.heap.objs.size],_,_,H1,rfl,I1.kept (t':=s1.toks) fun b o e=>Heap.get?_push_of_some _ e,wD a _,⟨_,Heap.get?_push_size _ rfl,rfl,rfl⟩,fun b hb=>?_,q⟩;have e:b=s1.heap.objs.size:=by simpa using hb
  subst e;exact I1.fpOk (af _) (I1.hok.fresh (af _))
 ·have hq:=qD s0 hq0
  have q:=q0 _ (gQ hq0);subst e;cases r1;obtain⟨its,rv,p,hz⟩:=I1.tuple hq;refine wpAny_pyIter_tuple (show s1.heap.IsTuple a its.toArray from p) ?_;refine⟨s1.heap.objs.size,[s1.heap.objs.size],_,_,H1,rfl,I1.kept (t':=s1.toks) fun b o e=>Heap.get?_push_of_some _ e,tG a _,⟨_,Heap.get?_push_size _ rfl,rfl,rfl⟩,fun b hb=>?_,q⟩;have e:b=s1.heap.objs.size:=by simpa using hb
  subst e;exact I1.fpOk (af _) (I1.hok.fresh (af _))
theorem yT (K:ae)(hK:X.K=K){l:Expr}{tl:TE}(hl:PE X l tl):PI X tg l (iSq K tl):=by
 subst hK;exact Xz hl
end
theorem Jd {J:It}{H0:Hp}{vs:List V}{g:TG}{tb:TS}{D:kM}{σ:St}{H:Hp}(rd:kA J H0 vs)(Pv:Nat->St->Hp->Prop)(h0:Pv 0 σ H)(hl:∀ i σ H,i<=vs.length->Pv i σ H->aK H0 H)
  (hs:∀ i x σ H,vs[i]?=some x->Pv i σ H->g x σ H fun σ2 H2=>tb { D with nx:=Pv (i+1),ct:=Pv (i+1),bk:=D.nx } σ2 H2) (hd:∀ σ H,Pv vs.length σ H->D.nx σ H) :
  ∃ W:Nat->Nat->St->Hp->Prop,(∃ m,W 0 m σ H)∧∀ i m σ H,W i m σ H ->
   (J.stop i H∧D.nx σ H)∨(J.go i H∧∃ N:St->Hp->Prop,(∀ σ' H',N σ' H'->∃ m',m'<m∧W (i+1) m' σ' H')∧∀ x H',J.yld i H x H'->g x σ H' fun σ2 H2=>tb { D with nx:=N,ct:=N,bk:=D.nx } σ2 H2):=by
 refine⟨fun i m σ H=>m=vs.length-i∧i<=vs.length∧Pv i σ H,⟨vs.length,by simp,b6 _,h0⟩,?_⟩;rintro i m σ H ⟨rfl,hi,p⟩;have hA:=hl i σ H hi p;by_cases hlt:i<vs.length
 ·refine .inr ⟨rd.go i H hA hlt,Pv (i+1),fun σ' H' p'=>⟨vs.length-(i+1),by omega,rfl,hlt,p'⟩,fun x H' hy=>?_⟩
  obtain⟨rfl,e⟩:=rd.yl i H x H' hA hy;exact hs i x σ _ e p
 ·have e:i=vs.length:=by omega
  subst e;exact .inl ⟨rd.st H hA,hd σ H p⟩
theorem eQ.un {te:TE}{σ:St}{Q:VK}{J:It}{H:Hp}(hw:eQ (fun _ H k=>k true H) te σ Q J H):gR te σ Q J H:=fun D hD=>by
 obtain⟨W,h0,hW⟩:=hw D hD;refine⟨W,h0,fun i m ys H2 hw2=>?_⟩;rcases hW i m ys H2 hw2 with g | ⟨g1,g2,N,g3,Nn,g4,g5⟩
 ·exact .inl g
 ·refine .inr ⟨g1,g2,N,g3,fun y H' hy=>?_⟩
  have:=g5 y H' hy
  dsimp only at this
  rw[if_pos rfl] at this;exact this
theorem Yj {J:It}{vs:List V}{te:TE}{σ:St}{H:Hp}{Q:VK}(g:V->List V)(rd:kA J H vs)(hn:vs.length<=sizeLine)
  (he:∀ x H',x∈vs->aK H H'->∀ N:V->Hp->Prop,(∀ c H'',aK H' H''->H' c=none->H'' c=some (.lst (g x))->N (.ref c) H'')->te (some x::σ) H' N)
  (hq:∀ D bs H',H D=none->aK H H'->H' D=some (.lst (bs.map V.ref))->Dt.R2 (fun v b=>b≠D∧H b=none∧H' b=some (.lst (g v))) vs bs->Q (.ref D) H'):gR te σ Q J H:=by
 refine eQ.un (Xo (fun _=>true) g rd hn (fun x H' _ s N hN=>hN H' (aK.refl _)) (fun x H' hx _ s N hN=>he x H' hx s N hN) fun D bs H' h1 h2 h3 h4=>?_);rw[gh.mpr fun _ _=>rfl] at h4;exact hq D bs H' h1 h2 h3 h4
def rdL (H:Hp)(v:V):List V:=match v with
 | .ref b=>match H b with
  | some (.lst xs)=>xs
  | _=>[]
 | _=>[]
theorem zG {H:Hp}{b:Addr}{xs:List V}(h:H b=some (.lst xs)):rdL H (.ref b)=xs:=by
 unfold rdL
 dsimp only
 rw[h]
end L2
set_option autoImplicit false
namespace SR
open PySem PyProof.Rows PySem.Spec
section
variable {prog:Program}{w:World}{A:Around}{E:Value->Shared->Prop}{s:Shared}{z:Array Keyed}{κ:KeyKind}{kd:SortKind}
theorem Rk {st:SortSt}{m:Nat}{Q:Option Nat->SortSt->Prop}(hO:LtR prog w A E s κ kd)(hz:KeysOf κ z)(hm:m<=z.size)(h1:1<=m)(hB:SB kd z st)(hu:Up κ (arrOf st) 0 m)(h:Q (some m) st):wpS (model prog w) A E s (countRun' 0 m) Q st:=by
 rw[countRun'_eq];refine wpS_bind (m:=upL 0 1 m) (aAV hO hz (by omega) (af 1) h1 hB Vm fun n hn1 hn2 _ hor=>?_);obtain rfl:n=m:=by
  rcases hor with e | e
  ·exact e
  ·by_cases hnm:n=m
   ·exact hnm
   ·have h2:κ.blt (KK κ (arrOf st) (0+n)) (KK κ (arrOf st) (0+n-1))=false:=hu (0+n-1) (0+n) (by omega) (by omega) (by omega)
    have h3:κ.blt (KK κ (arrOf st) (0+n)) (KK κ (arrOf st) (0+n-1))=true:=e;rw[h2] at h3;cases h3
 dsimp only
 rw[if_pos (by simp)];exact wpS_pure h
theorem Pp {st:SortSt}{n:Nat}{Q:Bool->SortSt->Prop}(h1:1<=n)(h:Q true st):wpS (model prog w) A E s (binarySort' 0 n n) Q st:=by
 rw[binarySort'_eq];refine wpS_bind (wpS_mono (wpS_forRange (I:=fun k c st'=>c=(none,())∧st'=st) (Q:=fun c st'=>c=(none,())∧st'=st) ?sp (fun _ _ hh=>hh) ⟨rfl,rfl⟩) ?po)
 case po =>
  rintro c st' ⟨rfl,rfl⟩;exact wpS_pure h
 case sp =>
  intro x c st' g1 g2 _;omega
theorem Ya {st:SortSt}{Q:Unit->SortSt->Prop}(hO:LtR prog w A E s κ kd)(hz:KeysOf κ z)(hB:SB kd z st)(hp:pendingOf st = #[])(h2:2<=z.size)(hu:Up κ (arrOf st) 0 z.size)
  (h:∀ st',SB kd z st'->Up κ (arrOf st') 0 z.size->Q () st'):wpS (model prog w) A E s sortRuns' Q st:=by
 rw[sortRuns'_eq];refine wpS_bind (wpS_get ?_)
 dsimp only
 simp only [hB.sz];generalize minRun' z.size z.size 0=mr;refine wpS_bind (wpS_mono (wpS_forRange
  (I:=fun x c st'=>(x=0∧c=(none,0)∧st'=st)∨(c=(none,z.size)∧SB kd z st'∧Up κ (arrOf st') 0 z.size∧(pendingOf st').size<=1))
  (Q:=fun c st'=>c=(none,z.size)∧SB kd z st'∧Up κ (arrOf st') 0 z.size∧(pendingOf st').size<=1) ?sp ?fi (.inl ⟨rfl,rfl,rfl⟩)) ?po)
 case fi =>
  rintro c st' (⟨h0,_⟩ | hh)
  ·omega
  ·exact hh
 case sp =>
  rintro x c st1 _ hx (⟨rfl,rfl,rfl⟩ | ⟨rfl,b1,b2,b3⟩)
  ·dsimp only
   rw[if_neg (by omega),iu];refine wpS_bind (Rk hO hz (af _) (by omega) hB hu ?_)
   dsimp only
   by_cases hlt:z.size<mr
   case' pos =>
    rw[if_pos hlt];refine wpS_bind (wpS_lift (wpAny_rule ⟨rfl,?_⟩));rw[show min z.size mr=z.size by omega];refine wpS_bind (Pp (by omega) ?_);simp only [lv,ck,if_false]
   case' neg =>
    rw[if_neg hlt]
   all_goals
    refine wpS_bind (wpS_get ?_);rw[hp];refine wpS_bind (wpS_modify (wpS_pure (.inr ⟨by rw[jl],⟨hB.prm,hB.knd,hB.ffl⟩,hu,?_⟩)));show ((pendingOf st1).push (0,z.size,0)).size<=1;rw[hp];exact af _
  ·dsimp only
   rw[if_pos (af _)];exact wpS_pure ⟨rfl,b1,b2,b3⟩
 case po =>
  rintro c st1 ⟨rfl,b1,b2,b3⟩
  dsimp only
  refine wpS_bind (wpS_mono (wpS_forRange (I:=fun x c st'=>c=(none,())∧SB kd z st'∧Up κ (arrOf st') 0 z.size∧(pendingOf st').size<=1)
   (Q:=fun c st'=>c=(none,())∧SB kd z st'∧Up κ (arrOf st') 0 z.size∧(pendingOf st').size<=1) ?fsp (fun _ _ hh=>hh) ⟨rfl,b1,b2,b3⟩) ?fpo)
  case fsp =>
   rintro x c st2 _ hx ⟨rfl,c1,c2,c3⟩;refine wpS_bind (wpS_get ?_);rw[if_pos c3];exact wpS_pure ⟨rfl,c1,c2,c3⟩
  case fpo =>
   rintro c st2 ⟨rfl,c1,c2,c3⟩
   dsimp only
   exact wpS_pure (h st2 c1 c2)
end
section
variable {prog:Program}{w:World}{A:Around}{E:Value->Shared->Prop}{s:Shared}
theorem Ss {α:Type}:∀ {l:List α},2<=l.length->∃ a b r,l=a::b::r
 | [],h=>by simp at h
 | [_],h=>by simp at h
 | a::b::r,_=>⟨a,b,r,rfl⟩
theorem Ma {κ:KeyKind}{kd:SortKind}{l:Addr}{vs:List Value}{n:Nat}{P:Fin->Shared->Prop}(ob:s.heap.get? l=some (seqObj "list" vs.toArray n))(hks:KeysOf κ (pairsOf vs))(hup:Up κ (pairsOf vs) 0 (pairsOf vs).size)
  (hO:∀ A E (s':Shared),(∀ a o,a≠l->s.heap.get? a=some o->s'.heap.get? a=some o)->LtR prog w A E s' κ kd)
  (hkk:∀ A E (s':Shared) (Q:SortKind->Shared->Prop),2<=vs.length->(∀ a o,a≠l->s.heap.get? a=some o->s'.heap.get? a=some o)->Q kd s'->wpAny (model prog w) A (keyKind' vs.toArray) Q E s') (hmx:vs.length<=sizeLine)
  (h:∀ st':SortSt,(arrOf st').Perm (pairsOf vs)->SortedToK κ (arrOf st') (pairsOf vs).size->P (.done (.ret .none)) { s with heap:=sortedHeap s.heap l vs ((arrOf st').map (·.2)) }) :
  wpAny (model prog w) A (Builtin.«list.sort» ⟨[.ref l],[]⟩) P E s:=by
 rw[list_sort_plain];have hlt:l<s.heap.objs.size:=Heap.lt_size ob;have hsz:vs.toArray.size=vs.length:=by simp
 refine wpAny_bind (listItems_at ob rfl (wpAny_bind (listUpdate_at ob rfl ?_ (hsz:=by rw[hsz];exact hmx))));obtain⟨ep,ob1⟩:∃ ep,(s.heap.update l (Obj.mapSeq fun _=>#[])).get? l=some (seqObj "list" #[] ep):=⟨_,get?_update_seq ob (fun _=>#[])⟩
 refine wpAny_bind (seqEpoch_at ob1 rfl (wpAny_bind (wpAny_newTuple (wpAny_bind (wpAny_newList (wpAny_holding ?_))))));have ob2:(((s.heap.update l (Obj.mapSeq fun _=>#[])).push (seqObj "tuple" vs.toArray 0)).push (seqObj "list" #[] 0)).get? l=some (seqObj "list" #[] ep) :=
  Heap.get?_push_of_some _ (Heap.get?_push_of_some _ ob1)
 show wpAny (model prog w) A _ P E { s with heap:=((s.heap.update l (Obj.mapSeq fun _=>#[])).push (seqObj "tuple" vs.toArray 0)).push (seqObj "list" #[] 0) }
 dsimp only
 by_cases hnb:vs.toArray.size<2
 ·rw[if_pos hnb,if_pos hnb]
  refine wpAny_bind (wpAny_pure ?_);rw[StateT.run_pure];refine wpAny_bind (wpAny_pure ?_);dsimp only;refine wpAny_bind (seqEpoch_at ob2 rfl (wpAny_bind (listUpdate_at ob2 rfl ?_ (hsz2:=?_))))
  ·simp only [bne_self_eq_false,ck,if_false]
   refine wpAny_pure (h (SortSt.mk' general' (vs.toArray.zip vs.toArray) #[] 7 none) (uc _) fun i j hij hj=>?_);obtain rfl:i=j:=by rw[pairsOf_size] at hj;omega
   exact KeyOrd.kle_refl _
  ·rw[j3];show (pairsOf vs).size<=_;rw[pairsOf_size];rw[sizeLine_eq];omega
 rw[if_neg hnb,if_neg hnb];have hag:∀ a o,a≠l->s.heap.get? a=some o->(((s.heap.update l (Obj.mapSeq fun _=>#[])).push (seqObj "tuple" vs.toArray 0)).push (seqObj "list" #[] 0)).get? a=some o:=fun a o na ha =>
  Heap.get?_push_of_some _ (Heap.get?_push_of_some _ (by rw[Heap.get?_update_ne _ _ _ _ na];exact ha))
 refine wpAny_bind (hkk _ _ _ _ (by omega) hag (wpAny_bind (wpAny_mono (Ya (κ:=κ) (hO _ _ _ hag) (z:=pairsOf vs) (st:=SortSt.mk' kd (vs.toArray.zip vs.toArray) #[] 7 none)
  (Q:=fun _ st'=>SB kd (pairsOf vs) st'∧Up κ (arrOf st') 0 (pairsOf vs).size) hks ⟨uc _,rfl,rfl⟩ rfl (by rw[pairsOf_size];omega) hup fun st' a1 a2=>⟨a1,a2⟩) ?_ fun _ _ e=>e)))
 rintro⟨⟨⟩,st'⟩ s' ⟨rfl,hB,hu⟩
 dsimp only
 have hpm:=hB.prm;refine wpAny_bind (seqEpoch_at ob2 rfl (wpAny_bind (listUpdate_at ob2 rfl ?_ (hsz2:=?_))))
 ·rw[hB.ffl]
  simp only [bne_self_eq_false,ck,if_false];exact wpAny_pure (h st' hpm fun i j hij hj=>hu i j (b6 _) hij hj)
 ·refine av (ku ((j3 ..).trans (hpm.size_eq.trans (pairsOf_size _)))) ?_
  rw[sizeLine_eq] at hmx ⊢;omega
theorem Ax {κ:KeyKind}{kd:SortKind}{l:Addr}{vs:List Value}{Q:Value->Shared->Prop}(hl:s.heap.IsList l vs.toArray)(hks:KeysOf κ (pairsOf vs))(hup:Up κ (pairsOf vs) 0 (pairsOf vs).size)
  (hO:∀ A E (s':Shared),(∀ a o,s.heap.get? a=some o->s'.heap.get? a=some o)->LtR prog w A E s' κ kd)
  (hkk:∀ A E (s':Shared) (Q:SortKind->Shared->Prop),2<=vs.length->(∀ a o,s.heap.get? a=some o->s'.heap.get? a=some o)->Q kd s'->wpAny (model prog w) A (keyKind' vs.toArray) Q E s') (hmx:vs.length<=sizeLine)
  (h:∀ st':SortSt,(arrOf st').Perm (pairsOf vs)->SortedToK κ (arrOf st') (pairsOf vs).size->Q (.ref (s.heap.objs.size+1)) { s with heap:=sortedAll s.heap vs ((arrOf st').map (·.2)) }) :
  wpAny (model prog w) A (call (.builtin "sorted") [.ref l]) Q E s:=by
 refine Calls.call_function_entry kind_sorted plain_sorted entry_sorted (args_sorted1 _) ?_;unfold Builtin.«sorted»;refine wpAny_bind (m:=checkCount "sorted" 1 1 _) (wpAny_pure (wpAny_bind (collect_list hl (wpAny_bind (wpAny_newList ?_)) (hsz:=by simpa using hmx))))
 have e1:((s.heap.push (seqObj "list" #[] 0)).update s.heap.objs.size (Obj.mapSeq (· ++ vs.toArray))).objs.size=s.heap.objs.size+1:=by
  rw[Heap.size_update,size_push']
 have e2:(((s.heap.push (seqObj "list" #[] 0)).update s.heap.objs.size (Obj.mapSeq (· ++ vs.toArray))).push (seqObj "list" vs.toArray 0)).get? (s.heap.objs.size+1)=some (seqObj "list" vs.toArray 0):=by
  conv=>lhs;rw[<- e1]
  exact Heap.get?_push_size _ rfl
 have e3:∀ a o,s.heap.get? a=some o->a≠s.heap.objs.size+1∧(((s.heap.push (seqObj "list" #[] 0)).update s.heap.objs.size (Obj.mapSeq (· ++ vs.toArray))).push (seqObj "list" vs.toArray 0)).get? a=some o:=fun a o ha =>
  have hlt:a<s.heap.objs.size:=Heap.lt_size ha
  ⟨bb (dz hlt),Heap.get?_push_of_some _ (by rw[Heap.get?_update_ne _ _ _ _ (bb hlt)];exact Heap.get?_push_of_some _ ha)⟩
 show wpAny _ _ _ _ _ { s with heap:=((s.heap.push (seqObj "list" #[] 0)).update s.heap.objs.size (Obj.mapSeq (· ++ vs.toArray))).push (seqObj "list" vs.toArray 0) }
 rw[e1];refine wpAny_bind (wpAny_holding (wpAny_call_entry slot_list_sort ⟨_,e2,rfl⟩ entry_list_sort (Ma e2 hks hup (fun A E s' hs=>hO A E s' fun a o ha=>hs a o (e3 a o ha).1 (e3 a o ha).2) (fun A E s' Q h2 hs=>hkk A E s' Q h2 fun a o ha=>hs a o (e3 a o ha).1 (e3 a o ha).2) hmx fun st' a1 a2=>⟨_,rfl,wpAny_pure ⟨_,rfl,?_⟩⟩) (args_list_sort _)));exact h st' a1 a2
theorem Dc {vs:List Value}{ss:List Str}(hS:StrsAre vs ss)(h2:2<=vs.length):keyKind' vs.toArray=pure oneType':=by
 obtain⟨v1,v2,r,e⟩:=Ss h2;rw[e] at hS ⊢;exact keyKind_strs hS
theorem uD:∀ {vs:List Value} {ss:List Str},StrsAre vs ss->∀ {i:Nat},i<vs.length->∃ y t,vs[i]?=some (Value.str y t)∧ss[i]?=some y
 | _,_,.nil,i,h=>by simp at h
 | _,_,.cons y t h,0,_=>⟨y,t,rfl,rfl⟩
 | _,_,.cons y t h,i+1,hi=>uD h (by simpa using hi)
theorem Tl {vs:List Value}{ss:List Str}(hS:StrsAre vs ss)(hso:ss.Pairwise fun a b=>¬ b.cps.toList<a.cps.toList):Up strKind (pairsOf vs) 0 (pairsOf vs).size:=fun i j _ hij hj=>by
 rw[pairsOf_size] at hj;have kk:∀ {i:Nat} {y:Str} {t:Tok},vs[i]?=some (Value.str y t)->KK strKind (pairsOf vs) i=y.cps.toList:=fun {i y t} e=>by
  obtain⟨h1,h2⟩:=aw.mp e;unfold KK;rw[show (pairsOf vs)[i]?=some (Value.str y t,Value.str y t) by
   show (vs.toArray.zip vs.toArray)[i]?=_;rw[Array.getElem?_zip_eq_some];exact⟨by simpa using e,by simpa using e⟩]
  rfl
 obtain⟨y,t,e1,e2⟩:=uD hS (i:=i) (by omega);obtain⟨y',t',e3,e4⟩:=uD hS (i:=j) hj;rw[kk e1,kk e3];by_cases e:i=j
 ·subst e
  rw[e2] at e4;cases e4;exact KeyOrd.kle_refl _
 ·obtain⟨g1,g2⟩:=aw.mp e2
  obtain⟨g3,g4⟩:=aw.mp e4;have h:=List.pairwise_iff_getElem.mp hso i j g1 g3 (by omega);rw[g2,g4] at h;exact decide_eq_false h
theorem Bt {l:Addr}{vs:List Value}{ss:List Str}{Q:Value->Shared->Prop}(hl:s.heap.IsList l vs.toArray)(hS:StrsAre vs ss)(hso:ss.Pairwise fun a b=>¬ b.cps.toList<a.cps.toList)(hmx:vs.length<=sizeLine)
  (h:∀ (out:Array Value) (ss':List Str),StrsAre out.toList ss'->ss'.Perm ss->sortedS ss'=true->Q (.ref (s.heap.objs.size+1)) { s with heap:=sortedAll s.heap vs out }) :
  wpAny (model prog w) A (call (.builtin "sorted") [.ref l]) Q E s:=by
 refine Ax hl hS.keysOf (Tl hS hso) (fun _ _ _ _=>Ub strKind_oneLt) (fun _ _ _ _ h2 _ q=>?_) hmx fun st' a1 a2=>?_
 ·rw[Dc hS h2];exact wpAny_pure q
 ·obtain⟨ss',h1,h2,h3⟩:=sorted_out_str hS a1 a2
  exact h _ ss' h1 h2 h3
end
end SR
namespace L2
open PySem PyProof.Rows PySem.Spec
section
variable {X:Cx}
theorem nR:eA X (.builtin "sorted") (fun xs H Q=>∃ (p:Addr) (ls:List (List Nat)),xs=[.ref p]∧SqL X.K H p (ls.map T)∧ls.Pairwise (fun a b=>¬ b<a)∧∀ (ms:List (List Nat)) (D:Addr),H D=none->ms.Perm ls->ms.Pairwise (fun a b=>¬ b<a)->Q (.ref D) (upd H D (.lst (ms.map T)))):=by
 intro pins s σ H xs us Q I r h;obtain⟨p,ls,rfl,hq,hso,q⟩:=h;obtain⟨u,rfl,ru⟩:=eZ r;cases ru;obtain⟨its,rv,pl,hz⟩:=I.list hq;have hlen:=rv.length;rw[aR] at hlen hz;have key:∀ (out:Array Value) (ss':List Str),StrsAre out.toList ss'->ss'.Perm (ls.map tx)->sortedS ss'=true->EP X pins σ Q (.ref (s.heap.objs.size+1)) { s with heap:=sortedAll s.heap its out }:=fun out ss' a1 a2 a3=>by
  obtain⟨e,he⟩:=sortedAll_at s.heap its out;have em:(ss'.map fun x=>x.cps.toList).map tx=ss':=by
   rw[bj]
   conv=>rhs;rw[<- iw ss']
   exact ay fun x _=>iN x
  have hp:(ss'.map fun x=>x.cps.toList).Perm ls:=by
   have y:=a2.map fun x=>x.cps.toList
   rw[bj,show (fun x=>x.cps.toList)∘tx=id from funext cW,iw] at y;exact y
  refine⟨.ref _,_,I.laid (t':=s.toks) (fun _ _=>sortedAll_old) (g7 _) (o:=.lst ((ss'.map fun x=>x.cps.toList).map T)) ⟨?_,out.toList,e,lO a1,by simpa using he⟩,rfl,q _ _ (I.hok.fresh (g7 _)) hp (oH _ (by rw[em];exact a3))⟩;rw[aR,hp.length_eq];exact hz
 refine SR.Bt pl.isList (lL rv) ?_ (by rw[<- hlen];exact hz) key;rw[de];exact hso.imp fun z=>by rw[cW,cW];exact z
theorem Bs (K:ae)(hK:X.K=K)(hu:X.A.units<cLine):OpR X (compareOp .NotEq) (fun x y H Q=>∃ (p b:Addr) (ys:List V),x = .ref p∧y = .ref b∧SqL K H p ys∧SqL K H b []∧Q (.bl (!ys.isEmpty)) H):=by
 subst hK;intro pins s σ H x y v u Q I rx ry h;obtain⟨p,b,ys,rfl,rfl,h1,h2,q⟩:=h;cases rx;cases ry;obtain⟨its,r,pl,_⟩:=I.list h1;obtain⟨its2,r2,pl2,_⟩:=I.list h2;have l1:=r.length;have l2:=r2.length
 cases ys with
 | nil =>
  have e1:its=[]:=bh.mp l1.symm;have e2:its2=[]:=bh.mp l2.symm;subst e1 e2;refine SeqAt.RcNeAt.lists (e:=fun _=>true) pl.isList pl2.isList rfl hu (fun j g1 g2=>absurd g1 (by simp)) _ _ _ _ ?_;exact⟨.bl _,H,I,rfl,q⟩
 | cons y ys =>
  refine SeqAt.RcNeAt.lists_lengths pl.isList pl2.isList (by rw[az,az,bne_iff_ne];simp only [aq,jn] at l1 l2;omega) hu _ _ _ _ ?_;exact⟨.bl _,H,I,rfl,q⟩
end
end L2
namespace L2
open PySem
theorem Qa {X:Cx}{st:Stmt}:PS X st (fun _ _ _=>False):=fun _ _ _ _ _ _ h=>h.elim
open PyProof.Rows PySem.Spec
section
variable {X:Cx}
theorem sL {pins:List (Addr×Obj)}{σ:St}{H:Hp}{s:Shared}{v:Value}{ls:List (List Nat)}{Q:VK}(h64:ls.length<64)
  (hc:∀ (A':Around) (Q':List Value->Shared->Prop),A'.handled=X.A.handled->(∀ (vs:List Value) (ss:List Str) (s1:Shared),StrsAre vs ss->ss.Perm (ls.map tx)->Inv X pins σ H s1->Q' vs s1)->wpAny (model X.prog X.w) A' (collect v) Q' X.xe s)
  (q:∀ (ms:List (List Nat)) (D:Addr),H D=none->ms.Perm ls->ms.Pairwise (fun a b=>¬ b<a)->Q (.ref D) (upd H D (.lst (ms.map T)))) :
  wpAny (model X.prog X.w) X.A (call (.builtin "sorted") [v]) (EP X pins σ Q) X.xe s:=by
 have hz:ls.length<=sizeLine:=by rw[sizeLine_eq];omega
 refine Calls.call_function_entry kind_sorted plain_sorted entry_sorted (args_sorted1 _) ?_;unfold Builtin.«sorted»;refine wpAny_bind (m:=checkCount "sorted" 1 1 _) (wpAny_pure (wpAny_bind (hc _ _ (by simp) fun vs ss s1 hS hp I1=>wpAny_bind (wpAny_newList ?_ (by rw[hS.length,hp.length_eq,aR];exact hz)))))
 have e2:(s1.heap.push (seqObj "list" vs.toArray 0)).get? s1.heap.objs.size=some (seqObj "list" vs.toArray 0):=Heap.get?_push_size _ rfl
 have hvl:vs.length=ls.length:=by rw[hS.length,hp.length_eq,aR]
 show wpAny _ _ _ _ _ { s1 with heap:=s1.heap.push (seqObj "list" vs.toArray 0) }
 have key:∀ (out:Array Value) (ss':List Str),StrsAre out.toList ss'->ss'.Perm ss->sortedS ss'=true->EP X pins σ Q (.ref s1.heap.objs.size) { s1 with heap:=sortedHeap (s1.heap.push (seqObj "list" vs.toArray 0)) s1.heap.objs.size vs out }:=fun out ss' b1 b2 b3=>by
  obtain⟨e,he⟩:=sortedHeap_at (out:=out) e2;have em:(ss'.map fun x=>x.cps.toList).map tx=ss':=by
   rw[bj]
   conv=>rhs;rw[<- iw ss']
   exact ay fun x _=>iN x
  have hp':(ss'.map fun x=>x.cps.toList).Perm ls:=by
   have y:=(b2.trans hp).map fun x=>x.cps.toList
   rw[bj,show (fun x=>x.cps.toList)∘tx=id from funext cW,iw] at y;exact y
  refine⟨.ref _,_,I1.laid (t':=s1.toks) (fun b o eo=>?_) (af _) (o:=.lst ((ss'.map fun x=>x.cps.toList).map T)) ⟨?_,out.toList,e,lO b1,by simpa using he⟩,rfl,q _ _ (I1.hok.fresh (af _)) hp' (oH _ (by rw[em];exact b3))⟩
  ·have hlt:=Heap.lt_size eo
   rw[sortedHeap_old (bb hlt) (by rw[size_push'];exact dz hlt)];exact Heap.get?_push_of_some _ eo
  ·rw[aR,hp'.length_eq]
   exact hz
 refine wpAny_bind (wpAny_holding (wpAny_call_entry slot_list_sort ⟨_,e2,rfl⟩ entry_list_sort (list_sort_treeK strKind_oneLt e2 hS.keysOf (fun v1 v2 r e=>?_) (by omega) fun st' a1 a2=>⟨_,rfl,wpAny_pure ⟨_,rfl,?_⟩⟩) (args_list_sort _)))
 ·have hS2:=hS
  rw[e] at hS2;exact keyKind_strs hS2
 ·obtain⟨ss',b1,b2,b3⟩:=sorted_out_str hS a1 a2
  exact key _ ss' b1 b2 b3
theorem lX (hc:X.calm=true):eA X (.builtin "sorted") (fun xs H Q=>∃ (p:Addr) (ls:List (List Nat)),xs=[.ref p]∧H p=some (lQ X.w p ls)∧ls.length<64∧∀ (ms:List (List Nat)) (D:Addr),H D=none->ms.Perm ls->ms.Pairwise (fun a b=>¬ b<a)->Q (.ref D) (upd H D (.lst (ms.map T)))):=by
 intro pins s σ H xs us Q I r h;obtain⟨p,ls,rfl,hq,hz,q⟩:=h;obtain⟨u,rfl,ru⟩:=eZ r;cases ru;have hs:sizeLine=16777216:=sizeLine_eq;refine sL hz (fun A' Q' hA hQ=>SS.Di (by rw[hA];exact I.ok.hd hc) (zK I hq) (by rw[aR];omega) fun s' vs ss kp g1 g2 e1 e2=>hQ vs ss s' e1 e2 ?_) q;have hg:AllBare s'.gens:=by rw[g1];exact I.bare
 exact I.call' (ch:=[]) g2 (Un.kept kp) (I.hok.kept kp) hg fun _ z=>nomatch z
theorem vH (hc:X.calm=true):eA X (.builtin "sorted") (fun xs H Q=>∃ (p:Addr) (ls:List (List Nat)) (kvs:List (Key×V)),xs=[.ref p]∧H p=some (.dK kvs)∧kvs.map (·.1)=ls.map (fun t=>b9 (tx t))∧ls.length<64∧∀ (ms:List (List Nat)) (D:Addr),H D=none->ms.Perm ls->ms.Pairwise (fun a b=>¬ b<a)->Q (.ref D) (upd H D (.lst (ms.map T)))):=by
 intro pins s σ H xs us Q I r h;obtain⟨p,ls,kvs,rfl,hq,hk,h64,q⟩:=h;obtain⟨u,rfl,ru⟩:=eZ r;cases ru;obtain⟨z,hd,vs,rel,dd⟩:=kQ I.hok hq;obtain⟨o,es,ep,rest⟩:=dd;have hl:ls.length=kvs.length:=by have:=congrArg gi hk;simpa using this.symm
 refine sL h64 (fun A' Q' hA hQ=>SS.Ab (vs:=vs) (ep:=ep) (by rw[hA];exact I.ok.hd hc) hd ⟨o,es,rest⟩ (by rw[<- rel.length];exact z) fun s' acc kp g1 g2 e1=>hQ _ (ls.map tx) s' (xC hk rel e1) (ic _) ?_) q;have hg:AllBare s'.gens:=by rw[g1];exact I.bare
 exact I.call' (ch:=[]) g2 (Un.kept kp) (I.hok.kept kp) hg fun _ z=>nomatch z
end
end L2
namespace SN
open PySem PyProof.Rows SS
def mP:Value->Int
 | .int x _=>x
 | _=>0
def El (w:World)(e:Int×Value):Prop:=e.1=hashInt (mP e.2)∧∃ t,e.2 = .int (mP e.2) t
def Els (w:World)(es:List (Int×Value))(ms:List Int):Prop:=(∀ e∈es,El w e)∧(es.map fun e=>mP e.2).Perm ms
def Rs (t:SetTable):Prop:=(∀ i j,i<j->j<t.place.size->t.place.getD i 0<t.place.getD j 0)∧t.dummies = #[]
def Is (w:World)(h:Heap)(a:Addr)(ms:List Int):Prop :=
 ∃ o es ep t,h.get? a=some o∧o.ExactSet∧o.data = .set es ep t∧Els w es.toList ms∧ms.Nodup∧es.size<scanBound∧t.fits es.size=true∧(byT w=true∨t.led=true)∧Rs t
section
variable {prog:Program}{w:World}{A:Around}{E:Value->Shared->Prop}{s:Shared}
end
end SN
namespace L2
open PySem PySem.Spec PyProof.Rows
namespace SEN
def Of (w:World)(h:Heap)(D:Addr)(ls:List Int)(i:Nat):Prop:=∃ ms,SN.Is w h D ms∧(∀ x,x∈ms↔x∈ls.take i)∧ms.length<=i
section
variable {prog:Program}{w:World}{A:Around}{R:Result->Shared->Prop}{J:Addr}{fp wr:List Addr}{G:Array GenState->Array GenState->Prop}{n:Nat}{P:Nat->Value->Prop}{St:Nat->Shared->Prop}
variable {E:Value->Shared->Prop}{s:Shared}
end
end SEN
section
variable {X:Cx}
end
end L2
namespace L2
open PySem PyProof.Rows
section
variable {X:Cx}
end
open PySem.Spec
section
variable {X:Cx}
end
end L2
namespace L2
open PySem
section
variable {X:Cx}
theorem Vd {st:Stmt}{t t':TS}(h:PS X st t)(hw:∀ (D:kM) (σ:St) (H:Hp),t' D σ H->t D σ H):PS X st t':=fun pins s σ H D I q=>h pins s σ H D I (hw D σ H q)
end
open PyProof.Rows
section
variable {X:Cx}
end
open PySem.Spec
section
variable {X:Cx}
end
end L2
namespace K38
open PySem L2
seal L2.PSs L2.PS L2.PE L2.PA L2.PT L2.PW L2.PI L2.PG L2.PGs L2.PO L2.PTy L2.PH L2.OpR L2.eA L2.IxR L2.SlR L2.UnR L2.aAe
def top (i:Nat):Stmt:=l6.main.body.getD i (.Pass ⟨0,0,0,0⟩)
abbrev gD:Stmt:=top 39
abbrev oW:Stmt:=top 40
abbrev lI:Stmt:=top 41
abbrev cU:Stmt:=top 42
abbrev cI:Stmt:=top 43
abbrev fS:Stmt:=top 44
abbrev iQ:Stmt:=top 45
abbrev hX:Stmt:=top 10
abbrev gE:Stmt:=top 11
abbrev pB:Stmt:=top 12
abbrev sY:Stmt:=top 13
abbrev jW:Stmt:=top 17
abbrev fR:Stmt:=Rt (top 18) 0
abbrev mI:Stmt:=top 19
abbrev sU:Stmt:=top 20
abbrev lB:Stmt:=top 21
abbrev xU:Stmt:=top 22
abbrev kK:Stmt:=top 23
abbrev jO:Stmt:=top 24
abbrev oS:Stmt:=top 25
abbrev kN:Stmt:=top 27
abbrev iP:Stmt:=top 28
abbrev gL:Stmt:=top 29
abbrev gS:Stmt:=top 30
abbrev lH:Stmt:=top 32
abbrev eW:Stmt:=top 47
abbrev dZ:Stmt:=top 48
abbrev jC:Stmt:=top 50
abbrev mJ:Stmt:=top 51
abbrev gG:Stmt:=top 52
abbrev pU:Stmt:=top 53
abbrev uQ:Stmt:=top 54
abbrev jN:Stmt:=top 55
abbrev pK:Stmt:=top 56
abbrev jT:Stmt:=top 57
abbrev lD:Stmt:=top 58
abbrev kP:Stmt:=top 59
abbrev oB:Stmt:=top 60
abbrev uP:Stmt:=top 61
abbrev gT:Stmt:=top 63
abbrev jR:Stmt:=top 64
abbrev iE:Stmt:=top 65
abbrev fE:Stmt:=top 66
abbrev gM:Stmt:=top 67
abbrev eS:Stmt:=top 68
abbrev fC:Stmt:=top 69
abbrev dW:Stmt:=top 70
abbrev fJ:Stmt:=top 71
abbrev iC:Stmt:=top 72
abbrev jZ:Stmt:=top 73
theorem pV:aU ["place", "last", "times"] ["place", "last"] (aF gD):=⟨rfl,rfl,rfl,by decide +kernel,rfl,by decide +kernel,by decide +kernel⟩
theorem cN:aU ["number", "prime", "last", "rest", "last_times", "times", "quotient", "next_rest", "more_times"] ["number", "prime"] (aF oW):=⟨rfl,rfl,rfl,by decide +kernel,rfl,by decide +kernel,by decide +kernel⟩
theorem sX:aU ["row", "top", "back", "prime", "times"] ["row", "top", "back", "prime"] (aF lI):=⟨rfl,rfl,rfl,by decide +kernel,rfl,by decide +kernel,by decide +kernel⟩
def vC:Scope:={ kind:=ax,names:=[ (ac ".0",ag),(ac "number",ag),(ac "above",ag),(ac "times",bf)],isGenerator:=false,isCoroutine:=false,more:=[]:ci }
theorem yP:yM ["row", "top", "back", "prime", "times"] ["number", "above", "row", "top", "back", "prime", "times"] (aF lI) vC "number" "above" := ⟨rfl,by decide +kernel,by decide +kernel,rfl,rfl,by decide +kernel,rfl,rfl,rfl,by decide +kernel,rfl,by decide +kernel,by decide +kernel⟩
theorem cR:aU ["numbers", "place", "number"] ["numbers"] (aF cU):=⟨rfl,rfl,rfl,by decide +kernel,rfl,by decide +kernel,by decide +kernel⟩
theorem bF:aU ["square", "prime", "rows", "rest", "place", "top", "back"] ["square", "prime"] (aF cI):=⟨rfl,rfl,rfl,by decide +kernel,rfl,by decide +kernel,by decide +kernel⟩
def jI:Scope:={ kind:=ax,names:=[ (ac ".0",ag),(ac "row",ag),(ac "prime",bf)],isGenerator:=false,isCoroutine:=false,more:=[]:ci }
theorem kD:bQ ["square", "prime", "rows", "rest", "place", "top", "back"] ["row", "square", "prime", "rows", "rest", "place", "top", "back"] (aF cI) jI "row" := ⟨rfl,by decide +kernel,by decide +kernel,rfl,by decide +kernel,rfl,rfl,by decide +kernel,rfl,by decide +kernel,by decide +kernel⟩
def jU:Scope:={ kind:=ax,names:=[ (ac ".0",ag),(ac "number",ag),(ac "prime",bf)],isGenerator:=false,isCoroutine:=false,more:=[]:ci }
theorem kB:bQ ["square", "prime", "rows", "rest", "place", "top", "back"] ["number", "square", "prime", "rows", "rest", "place", "top", "back"] (aF cI) jU "number" := ⟨rfl,by decide +kernel,by decide +kernel,rfl,by decide +kernel,rfl,rfl,by decide +kernel,rfl,by decide +kernel,by decide +kernel⟩
def jH:Scope:={ kind:=ax,names:=[ (ac ".0",ag),(ac "row",ag),(ac "lowered",bo),(ac "back",bf),(ac "prime",bf),(ac "top",bf)],isGenerator:=false,isCoroutine:=false,more:=[]:ci }
theorem kC:bQ ["square", "prime", "rows", "rest", "place", "top", "back"] ["row", "square", "prime", "rows", "rest", "place", "top", "back"] (aF cI) jH "row" := ⟨rfl,by decide +kernel,by decide +kernel,rfl,by decide +kernel,rfl,rfl,by decide +kernel,rfl,by decide +kernel,by decide +kernel⟩
theorem fA:aU ["square", "bound", "row"] ["square"] (aF fS):=⟨rfl,rfl,rfl,by decide +kernel,rfl,by decide +kernel,by decide +kernel⟩
def nF:Scope:={ kind:=ax,names:=[ (ac ".0",ag),(ac "number",ag),(ac "abs",bo)],isGenerator:=false,isCoroutine:=false,more:=[]:ci }
theorem oK:bQ ["square", "bound", "row"] ["number", "square", "bound", "row"] (aF fS) nF "number" := ⟨rfl,by decide +kernel,by decide +kernel,rfl,by decide +kernel,rfl,rfl,by decide +kernel,rfl,by decide +kernel,by decide +kernel⟩
theorem bL:aU ["square", "bound", "result", "modulus", "place", "times", "prime", "lacking"] ["square"] (aF iQ):=⟨rfl,rfl,rfl,by decide +kernel,rfl,by decide +kernel,by decide +kernel⟩
theorem qT:aU ["kinds"] ["kinds"] (aF hX):=⟨rfl,rfl,rfl,by decide +kernel,rfl,by decide +kernel,by decide +kernel⟩
theorem oN:aU ["length", "kinds"] ["length", "kinds"] (aF gE):=⟨rfl,rfl,rfl,by decide +kernel,rfl,by decide +kernel,by decide +kernel⟩
theorem Ct:aU ["kinds"] ["kinds"] (aF pB):=⟨rfl,rfl,rfl,by decide +kernel,rfl,by decide +kernel,by decide +kernel⟩
theorem pS:aU ["word", "kinds", "known", "sign"] ["word", "kinds"] (aF sY):=⟨rfl,rfl,rfl,by decide +kernel,rfl,by decide +kernel,by decide +kernel⟩
theorem mC:aU ["words", "word"] ["words"] (aF jW):=⟨rfl,rfl,rfl,by decide +kernel,rfl,by decide +kernel,by decide +kernel⟩
theorem Bw:aU ["self", "words"] ["self", "words"] (aF fR):=⟨rfl,rfl,rfl,by decide +kernel,rfl,by decide +kernel,by decide +kernel⟩
theorem Av:aU ["word"] ["word"] (aF mI):=⟨rfl,rfl,rfl,by decide +kernel,rfl,by decide +kernel,by decide +kernel⟩
theorem Iw:aU ["word"] ["word"] (aF sU):=⟨rfl,rfl,rfl,by decide +kernel,rfl,by decide +kernel,by decide +kernel⟩
theorem Ku:aU ["web"] ["web"] (aF lB):=⟨rfl,rfl,rfl,by decide +kernel,rfl,by decide +kernel,by decide +kernel⟩
def yJ:Scope:={ kind:=ax,names:=[ (ac ".0",ag),(ac "word",ag),(ac "begin_of",bo)],isGenerator:=false,isCoroutine:=false,more:=[]:ci }
theorem Au:bQ ["web"] ["word", "web"] (aF lB) yJ "word" := ⟨rfl,by decide +kernel,by decide +kernel,rfl,by decide +kernel,rfl,rfl,by decide +kernel,rfl,by decide +kernel,by decide +kernel⟩
def yB:Scope:={ kind:=ax,names:=[ (ac ".0",ag),(ac "word",ag),(ac "end_of",bo)],isGenerator:=false,isCoroutine:=false,more:=[]:ci }
theorem Ck:bQ ["web"] ["word", "web"] (aF lB) yB "word" := ⟨rfl,by decide +kernel,by decide +kernel,rfl,by decide +kernel,rfl,rfl,by decide +kernel,rfl,by decide +kernel,by decide +kernel⟩
theorem Te:aU ["web", "piece"] ["web", "piece"] (aF xU):=⟨rfl,rfl,rfl,by decide +kernel,rfl,by decide +kernel,by decide +kernel⟩
def Cw:Scope:={ kind:=ax,names:=[ (ac ".0",ag),(ac "word",ag),(ac "begin_of",bo),(ac "piece",bf)],isGenerator:=false,isCoroutine:=false,more:=[]:ci }
theorem Ko:bQ ["web", "piece"] ["word", "web", "piece"] (aF xU) Cw "word" := ⟨rfl,by decide +kernel,by decide +kernel,rfl,by decide +kernel,rfl,rfl,by decide +kernel,rfl,by decide +kernel,by decide +kernel⟩
theorem pR:aU ["web", "some", "going", "coming"] ["web", "some"] (aF kK):=⟨rfl,rfl,rfl,by decide +kernel,rfl,by decide +kernel,by decide +kernel⟩
def yH:Scope:={ kind:=ax,names:=[ (ac ".0",ag),(ac "word",ag),(ac "begin_of",bo),(ac "some",bf)],isGenerator:=false,isCoroutine:=false,more:=[]:ci }
theorem Cr:bQ ["web", "some", "going", "coming"] ["word", "web", "some", "going", "coming"] (aF kK) yH "word" := ⟨rfl,by decide +kernel,by decide +kernel,rfl,by decide +kernel,rfl,rfl,by decide +kernel,rfl,by decide +kernel,by decide +kernel⟩
def xQ:Scope:={ kind:=ax,names:=[ (ac ".0",ag),(ac "word",ag),(ac "end_of",bo),(ac "some",bf)],isGenerator:=false,isCoroutine:=false,more:=[]:ci }
theorem Cp:bQ ["web", "some", "going", "coming"] ["word", "web", "some", "going", "coming"] (aF kK) xQ "word" := ⟨rfl,by decide +kernel,by decide +kernel,rfl,by decide +kernel,rfl,rfl,by decide +kernel,rfl,by decide +kernel,by decide +kernel⟩
theorem eM:aU ["words", "piece", "found", "known", "word"] ["words", "piece"] (aF jO):=⟨rfl,rfl,rfl,by decide +kernel,rfl,by decide +kernel,by decide +kernel⟩
theorem Ff:aU ["web", "piece"] ["web", "piece"] (aF oS):=⟨rfl,rfl,rfl,by decide +kernel,rfl,by decide +kernel,by decide +kernel⟩
theorem jS:aU ["web", "every", "together"] ["web"] (aF kN):=⟨rfl,rfl,rfl,by decide +kernel,rfl,by decide +kernel,by decide +kernel⟩
theorem kL:aU ["web", "piece"] ["web"] (aF iP):=⟨rfl,rfl,rfl,by decide +kernel,rfl,by decide +kernel,by decide +kernel⟩
theorem lW:aU ["web", "above"] ["web"] (aF gL):=⟨rfl,rfl,rfl,by decide +kernel,rfl,by decide +kernel,by decide +kernel⟩
def oO:Scope:={ kind:=ax,names:=[ (ac ".0",ag),(ac "piece",ag),(ac "excess",bo),(ac "web",bf)],isGenerator:=false,isCoroutine:=false,more:=[]:ci }
theorem qP:bQ ["web", "above"] ["piece", "web", "above"] (aF gL) oO "piece" := ⟨rfl,by decide +kernel,by decide +kernel,rfl,by decide +kernel,rfl,rfl,by decide +kernel,rfl,by decide +kernel,by decide +kernel⟩
theorem iL:aU ["web", "paper", "firsts", "lasts"] ["web"] (aF gS):=⟨rfl,rfl,rfl,by decide +kernel,rfl,by decide +kernel,by decide +kernel⟩
def tV:Scope:={ kind:=ax,names:=[ (ac ".0",ag),(ac "piece",ag),(ac "excess",bo),(ac "web",bf)],isGenerator:=false,isCoroutine:=false,more:=[]:ci }
theorem vL:bQ ["web", "paper", "firsts", "lasts"] ["piece", "web", "paper", "firsts", "lasts"] (aF gS) tV "piece" := ⟨rfl,by decide +kernel,by decide +kernel,rfl,by decide +kernel,rfl,rfl,by decide +kernel,rfl,by decide +kernel,by decide +kernel⟩
def tF:Scope:={ kind:=ax,names:=[ (ac ".0",ag),(ac "piece",ag),(ac "excess",bo),(ac "web",bf)],isGenerator:=false,isCoroutine:=false,more:=[]:ci }
theorem vI:bQ ["web", "paper", "firsts", "lasts"] ["piece", "web", "paper", "firsts", "lasts"] (aF gS) tF "piece" := ⟨rfl,by decide +kernel,by decide +kernel,rfl,by decide +kernel,rfl,rfl,by decide +kernel,rfl,by decide +kernel,by decide +kernel⟩
theorem Cs:aU ["words", "word"] ["words", "word"] (aF lH):=⟨rfl,rfl,rfl,by decide +kernel,rfl,by decide +kernel,by decide +kernel⟩
def vP:Scope:={ kind:=ax,names:=[ (ac ".0",ag),(ac "other",ag),(ac "word",bf)],isGenerator:=false,isCoroutine:=false,more:=[]:ci }
theorem yL:bQ ["words", "word"] ["other", "words", "word"] (aF lH) vP "other" := ⟨rfl,by decide +kernel,by decide +kernel,rfl,by decide +kernel,rfl,rfl,by decide +kernel,rfl,by decide +kernel,by decide +kernel⟩
theorem mE:aU ["texts", "text", "words", "ends"] ["texts", "text", "words"] (aF eW):=⟨rfl,rfl,rfl,by decide +kernel,rfl,by decide +kernel,by decide +kernel⟩
def oZ:Scope:={ kind:=ax,names:=[ (ac ".0",ag),(ac "word",ag),(ac "end_of",bo)],isGenerator:=false,isCoroutine:=false,more:=[]:ci }
theorem qU:bQ ["texts", "text", "words", "ends"] ["word", "texts", "text", "words", "ends"] (aF eW) oZ "word" := ⟨rfl,by decide +kernel,by decide +kernel,rfl,by decide +kernel,rfl,rfl,by decide +kernel,rfl,by decide +kernel,by decide +kernel⟩
def pH:Scope:={ kind:=ax,names:=[ (ac ".0",ag),(ac "other",ag),(ac "len",bo),(ac "ends",bf),(ac "text",bf)],isGenerator:=false,isCoroutine:=false,more:=[]:ci }
theorem qV:bQ ["texts", "text", "words", "ends"] ["other", "texts", "text", "words", "ends"] (aF eW) pH "other" := ⟨rfl,by decide +kernel,by decide +kernel,rfl,by decide +kernel,rfl,rfl,by decide +kernel,rfl,by decide +kernel,by decide +kernel⟩
theorem iA:aU ["ways", "texts"] ["ways"] (aF dZ):=⟨rfl,rfl,rfl,by decide +kernel,rfl,by decide +kernel,by decide +kernel⟩
def kF:Scope:={ kind:=ax,names:=[ (ac ".0",ag),(ac "text",ag),(ac "choice_row",bo),(ac "texts",bf),(ac "ways",bf)],isGenerator:=false,isCoroutine:=false,more:=[]:ci }
theorem kS:bQ ["ways", "texts"] ["text", "ways", "texts"] (aF dZ) kF "text" := ⟨rfl,by decide +kernel,by decide +kernel,rfl,by decide +kernel,rfl,rfl,by decide +kernel,rfl,by decide +kernel,by decide +kernel⟩
theorem mQ:aU ["words", "one", "other", "begins", "ends"] ["words", "one", "other"] (aF jC):=⟨rfl,rfl,rfl,by decide +kernel,rfl,by decide +kernel,by decide +kernel⟩
def vT:Scope:={ kind:=ax,names:=[ (ac ".0",ag),(ac "word",ag),(ac "begin_of",bo)],isGenerator:=false,isCoroutine:=false,more:=[]:ci }
theorem zI:bQ ["words", "one", "other", "begins", "ends"] ["word", "words", "one", "other", "begins", "ends"] (aF jC) vT "word" := ⟨rfl,by decide +kernel,by decide +kernel,rfl,by decide +kernel,rfl,rfl,by decide +kernel,rfl,by decide +kernel,by decide +kernel⟩
def vQ:Scope:={ kind:=ax,names:=[ (ac ".0",ag),(ac "word",ag),(ac "end_of",bo)],isGenerator:=false,isCoroutine:=false,more:=[]:ci }
theorem yN:bQ ["words", "one", "other", "begins", "ends"] ["word", "words", "one", "other", "begins", "ends"] (aF jC) vQ "word" := ⟨rfl,by decide +kernel,by decide +kernel,rfl,by decide +kernel,rfl,rfl,by decide +kernel,rfl,by decide +kernel,by decide +kernel⟩
theorem kT:aU ["words", "ways", "word"] ["words"] (aF mJ):=⟨rfl,rfl,rfl,by decide +kernel,rfl,by decide +kernel,by decide +kernel⟩
theorem eJ:aU ["many", "product", "factor"] ["many"] (aF gG):=⟨rfl,rfl,rfl,by decide +kernel,rfl,by decide +kernel,by decide +kernel⟩
theorem gY:aU ["words", "one", "other", "ways", "orders", "text"] ["words", "one", "other"] (aF pU):=⟨rfl,rfl,rfl,by decide +kernel,rfl,by decide +kernel,by decide +kernel⟩
theorem dB:aU ["words", "one", "other", "number", "text", "at", "left", "ahead", "word", "many"] ["words", "one", "other", "number"] (aF uQ):=⟨rfl,rfl,rfl,by decide +kernel,rfl,by decide +kernel,by decide +kernel⟩
theorem lV:aU ["web", "least"] ["web"] (aF jN):=⟨rfl,rfl,rfl,by decide +kernel,rfl,by decide +kernel,by decide +kernel⟩
theorem mG:aU ["web", "number", "least", "row"] ["web", "number"] (aF pK):=⟨rfl,rfl,rfl,by decide +kernel,rfl,by decide +kernel,by decide +kernel⟩
theorem eL:aU ["web", "rings", "counts", "piece", "ends"] ["web"] (aF jT):=⟨rfl,rfl,rfl,by decide +kernel,rfl,by decide +kernel,by decide +kernel⟩
theorem xN:aU ["web"] ["web"] (aF lD):=⟨rfl,rfl,rfl,by decide +kernel,rfl,by decide +kernel,by decide +kernel⟩
theorem nS:aU ["web", "piece", "counts"] ["web", "piece"] (aF kP):=⟨rfl,rfl,rfl,by decide +kernel,rfl,by decide +kernel,by decide +kernel⟩
theorem tD:aU ["web", "piece", "ends"] ["web", "piece"] (aF oB):=⟨rfl,rfl,rfl,by decide +kernel,rfl,by decide +kernel,by decide +kernel⟩
theorem iY:aU ["web", "number", "counts", "ahead", "piece"] ["web", "number"] (aF uP):=⟨rfl,rfl,rfl,by decide +kernel,rfl,by decide +kernel,by decide +kernel⟩
theorem qY:aU ["script", "k"] ["script", "k"] (aF gT):=⟨rfl,rfl,rfl,by decide +kernel,rfl,by decide +kernel,by decide +kernel⟩
theorem vK:aU ["found", "due"] ["found", "due"] (aF jR):=⟨rfl,rfl,rfl,by decide +kernel,rfl,by decide +kernel,by decide +kernel⟩
theorem dR:aU ["cells", "kinds", "first", "words", "here", "cell", "free", "word"] ["cells", "kinds", "first"] (aF iE):=⟨rfl,rfl,rfl,by decide +kernel,rfl,by decide +kernel,by decide +kernel⟩
def qN:Scope:={ kind:=ax,names:=[ (ac ".0",ag),(ac "sign",ag),(ac "here",bf),(ac "words",bf)],isGenerator:=false,isCoroutine:=false,more:=[]:ci }
theorem rR:bQ ["cells", "kinds", "first", "words", "here", "cell", "free", "word"] ["sign", "cells", "kinds", "first", "words", "here", "cell", "free", "word"] (aF iE) qN "sign" := ⟨rfl,by decide +kernel,by decide +kernel,rfl,by decide +kernel,rfl,rfl,by decide +kernel,rfl,by decide +kernel,by decide +kernel⟩
theorem aZ:aU ["script", "at", "most", "length", "kinds", "drawn", "first", "k", "words"] ["script", "at", "most"] (aF fE):=⟨rfl,rfl,rfl,by decide +kernel,rfl,by decide +kernel,by decide +kernel⟩
theorem dX:aU ["kinds", "length", "words", "k", "longer", "word"] ["kinds", "length"] (aF gM):=⟨rfl,rfl,rfl,by decide +kernel,rfl,by decide +kernel,by decide +kernel⟩
def pW:Scope:={ kind:=ax,names:=[ (ac ".0",ag),(ac "sign",ag),(ac "word",bf)],isGenerator:=false,isCoroutine:=false,more:=[]:ci }
theorem qZ:bQ ["kinds", "length", "words", "k", "longer", "word"] ["sign", "kinds", "length", "words", "k", "longer", "word"] (aF gM) pW "sign" := ⟨rfl,by decide +kernel,by decide +kernel,rfl,by decide +kernel,rfl,rfl,by decide +kernel,rfl,by decide +kernel,by decide +kernel⟩
theorem bG:aU ["cell", "most", "sizes", "kinds", "length", "part", "words", "word"] ["cell", "most"] (aF eS):=⟨rfl,rfl,rfl,by decide +kernel,rfl,by decide +kernel,by decide +kernel⟩
theorem aX:aU ["script", "at", "most", "words", "way", "drawn", "k", "word", "j", "part"] ["script", "at", "most"] (aF fC):=⟨rfl,rfl,rfl,by decide +kernel,rfl,by decide +kernel,by decide +kernel⟩
theorem eY:aU ["words", "here", "goal", "found", "word", "left"] ["words", "here", "goal"] (aF dW):=⟨rfl,rfl,rfl,by decide +kernel,rfl,by decide +kernel,by decide +kernel⟩
def nE:Scope:={ kind:=ax,names:=[ (ac ".0",ag),(ac "other",ag),(ac "word",bf)],isGenerator:=false,isCoroutine:=false,more:=[]:ci }
theorem pX:bQ ["words", "here", "goal", "found", "word", "left"] ["other", "words", "here", "goal", "found", "word", "left"] (aF dW) nE "other" := ⟨rfl,by decide +kernel,by decide +kernel,rfl,by decide +kernel,rfl,rfl,by decide +kernel,rfl,by decide +kernel,by decide +kernel⟩
def nN:Scope:={ kind:=ax,names:=[ (ac ".0",ag),(ac "order",ag),(ac "word",bf)],isGenerator:=false,isCoroutine:=false,more:=[]:ci }
theorem pM:bQ ["words", "here", "goal", "found", "word", "left"] ["order", "words", "here", "goal", "found", "word", "left"] (aF dW) nN "order" := ⟨rfl,by decide +kernel,by decide +kernel,rfl,by decide +kernel,rfl,rfl,by decide +kernel,rfl,by decide +kernel,by decide +kernel⟩
theorem fT:aU ["words", "first", "left", "orders"] ["words"] (aF fJ):=⟨rfl,rfl,rfl,by decide +kernel,rfl,by decide +kernel,by decide +kernel⟩
def pP:Scope:={ kind:=ax,names:=[ (ac ".0",ag),(ac "word",ag),(ac "first",bf)],isGenerator:=false,isCoroutine:=false,more:=[]:ci }
theorem qQ:bQ ["words", "first", "left", "orders"] ["word", "words", "first", "left", "orders"] (aF fJ) pP "word" := ⟨rfl,by decide +kernel,by decide +kernel,rfl,by decide +kernel,rfl,rfl,by decide +kernel,rfl,by decide +kernel,by decide +kernel⟩
def iW:Scope:={ kind:=ax,names:=[ (ac ".0",ag),(ac "order",ag),(ac "first",bf)],isGenerator:=false,isCoroutine:=false,more:=[]:ci }
theorem qW:bQ ["words", "first", "left", "orders"] ["order", "words", "first", "left", "orders"] (aF fJ) iW "order" := ⟨rfl,by decide +kernel,by decide +kernel,rfl,by decide +kernel,rfl,rfl,by decide +kernel,rfl,by decide +kernel,by decide +kernel⟩
def oP:Scope:={ kind:=ax,names:=[(ac ".0",ag),(ac "word",ag)],isGenerator:=false,isCoroutine:=false,more:=[]:ci }
theorem qM {env:Env}:bQ ["order", "words", "first", "left", "orders"] ["word", "order", "words", "first", "left", "orders"] (relabel iW env) oP "word" := ⟨rfl,by decide +kernel,by decide +kernel,rfl,Dv (by decide +kernel) env,rfl,rfl,by decide +kernel,rfl,by decide +kernel,by decide +kernel⟩
theorem fH:aU ["words", "every", "found", "one", "other", "order"] ["words", "every"] (aF iC):=⟨rfl,rfl,rfl,by decide +kernel,rfl,by decide +kernel,by decide +kernel⟩
def qX:Scope:={ kind:=ax,names:=[(ac ".0",ag),(ac "word",ag)],isGenerator:=false,isCoroutine:=false,more:=[]:ci }
theorem tU:bQ ["words", "every", "found", "one", "other", "order"] ["word", "words", "every", "found", "one", "other", "order"] (aF iC) qX "word" := ⟨rfl,by decide +kernel,by decide +kernel,rfl,by decide +kernel,rfl,rfl,by decide +kernel,rfl,by decide +kernel,by decide +kernel⟩
theorem gX:aU ["script", "words", "web", "every", "rings", "rows", "size", "piece", "k", "last"] ["script"] (aF jZ):=⟨rfl,rfl,rfl,by decide +kernel,rfl,by decide +kernel,by decide +kernel⟩
def Kz:Scope:={ kind:=ax,names:=[(ac ".0",ag),(ac "word",ag)],isGenerator:=false,isCoroutine:=false,more:=[]:ci }
theorem Nt:bQ ["script", "words", "web", "every", "rings", "rows", "size", "piece", "k", "last"] ["word", "script", "words", "web", "every", "rings", "rows", "size", "piece", "k", "last"] (aF jZ) Kz "word" := ⟨rfl,by decide +kernel,by decide +kernel,rfl,by decide +kernel,rfl,rfl,by decide +kernel,rfl,by decide +kernel,by decide +kernel⟩
def Jg:Scope:={ kind:=ax,names:=[(ac ".0",ag),(ac "word",ag)],isGenerator:=false,isCoroutine:=false,more:=[]:ci }
theorem Pa:bQ ["script", "words", "web", "every", "rings", "rows", "size", "piece", "k", "last"] ["word", "script", "words", "web", "every", "rings", "rows", "size", "piece", "k", "last"] (aF jZ) Jg "word" := ⟨rfl,by decide +kernel,by decide +kernel,rfl,by decide +kernel,rfl,rfl,by decide +kernel,rfl,by decide +kernel,by decide +kernel⟩
def Ki:Scope:={ kind:=ax,names:=[ (ac ".0",ag),(ac "row",ag),(ac "piece",bf),(ac "size",bf)],isGenerator:=false,isCoroutine:=false,more:=[]:ci }
theorem Qk:bQ ["script", "words", "web", "every", "rings", "rows", "size", "piece", "k", "last"] ["row", "script", "words", "web", "every", "rings", "rows", "size", "piece", "k", "last"] (aF jZ) Ki "row" := ⟨rfl,by decide +kernel,by decide +kernel,rfl,by decide +kernel,rfl,rfl,by decide +kernel,rfl,by decide +kernel,by decide +kernel⟩
structure Adr where
 BadKinds:Addr
 BadWord:Addr
 TooMany:Addr
 NoSuch:Addr
 Web:Addr
 KNOWN_TIMES:Addr
 u_FIRST_PRIME:Value
 u_STEP:Value
 u_LETTERS:Value
 u_LONGEST:Value
 u_MOST_OF_A_WEB:Value
 u_LONGEST_OF_A_WEB:Value
structure Txt (K:ae)(mg:Str->Option Value)(ad:Adr):Prop where
 b_abs:mg "abs" = none
 b_bool:mg "bool" = none
 b_enumerate:mg "enumerate" = none
 b_int:mg "int" = none
 b_isinstance:mg "isinstance" = none
 b_len:mg "len" = none
 b_list:mg "list" = none
 b_min:mg "min" = none
 b_range:mg "range" = none
 b_set:mg "set" = none
 b_sorted:mg "sorted" = none
 b_sum:mg "sum" = none
 b_tuple:mg "tuple" = none
 b_zip:mg "zip" = none
 m_BadKinds:mg "BadKinds" = some (.ref ad.BadKinds)
 m_BadWord:mg "BadWord" = some (.ref ad.BadWord)
 m_TooMany:mg "TooMany" = some (.ref ad.TooMany)
 m_NoSuch:mg "NoSuch" = some (.ref ad.NoSuch)
 m_Web:mg "Web" = some (.ref ad.Web)
 m_KNOWN_TIMES:mg "KNOWN_TIMES" = some (.ref ad.KNOWN_TIMES)
 x_BadKinds:Exc K mg "BadKinds" ad.BadKinds
 x_BadWord:Exc K mg "BadWord" ad.BadWord
 x_TooMany:Exc K mg "TooMany" ad.TooMany
 x_NoSuch:Exc K mg "NoSuch" ad.NoSuch
 g_FIRST_PRIME:mg "FIRST_PRIME" = some ad.u_FIRST_PRIME
 r_FIRST_PRIME:bE (.int 2305843009213693951) ad.u_FIRST_PRIME
 g_STEP:mg "STEP" = some ad.u_STEP
 r_STEP:bE (.int 6277101735386680763835789423207666416102355444464034512896) ad.u_STEP
 g_LETTERS:mg "LETTERS" = some ad.u_LETTERS
 r_LETTERS:bE (T [97,98,99,100,101,102]) ad.u_LETTERS
 g_LONGEST:mg "LONGEST" = some ad.u_LONGEST
 r_LONGEST:bE (.int 24) ad.u_LONGEST
 g_MOST_OF_A_WEB:mg "MOST_OF_A_WEB" = some ad.u_MOST_OF_A_WEB
 r_MOST_OF_A_WEB:bE (.int 64) ad.u_MOST_OF_A_WEB
 g_LONGEST_OF_A_WEB:mg "LONGEST_OF_A_WEB" = some ad.u_LONGEST_OF_A_WEB
 r_LONGEST_OF_A_WEB:bE (.int 8) ad.u_LONGEST_OF_A_WEB
 kt:tupIs K ad.KNOWN_TIMES [133,211,598,652,721,850,1282,1417,1582,1681,1726,1837,1885,2017,2377,2383,2452,2476,2530,2611,2662,2698,2773,2878,2917,2980,2998,3082,3238,3250,3343,3421,3427,3670,3817,4162,4252,4447,4468,4621,4630,4747,4867,4891,4915,5128,5143,5236,5401,5587,5650,5803,5833,5923,5986,6202,6235,6286,6496,6526,6736,7093,7561,7696,7831,7855,7882,7927,8143,8248]=true
 cl_Web:Cls K ad.Web
 na_Web_words:kY K ad.Web "words"
 na_Web_length:kY K ad.Web "length"
theorem cP {CX:CXT}{P:Program}{w:World}{K:ae}{mg:Str->Option Value}{base:Heap}{N:List Str}{q:Str}{sc:Scope}{f:Addr}{cdv:Value}{A:Around}{outer:List Env}{s:Shared}{H:Hp}{E:XK}:(qS CX P w K mg base N q sc f cdv A outer s H E).nox.K=K:=rfl
section
variable {P:Program}{w:World}{K:ae}{mg:Str->Option Value}{base:Heap}{ad:Adr}
theorem aAK {m:Nat}(h:m<6):([97,98,99,100,101,102]:List Nat)[m]?=some (97+m):=by
 have key:∀ m:Nat,m<6->([97,98,99,100,101,102]:List Nat)[m]?=some (97+m):=by decide
 exact key m h
theorem Gn {k c:Nat}(hk:k<=6):c∈([97,98,99,100,101,102]:List Nat).take k↔97<=c∧c<97+k:=by
 have key:∀ k:Nat,k<7->([97,98,99,100,101,102]:List Nat).take k=(cp k).map (97 + ·):=by decide
 rw[key k (Nat.lt_succ_of_le hk),ao];exact⟨fun ⟨i,h,e⟩=>e▸⟨g9 _ _,Nat.add_lt_add_left (cr.mp h) _⟩,fun ⟨h1,h2⟩=>⟨c-97,cr.mpr (Nat.sub_lt_left_of_lt_add h1 h2),qi h1⟩⟩
def uN (ad:Adr):Sp:=fun vs H Q E=>∃ k:Int,vs=[.int k]∧((1<=k∧k<=6)->Q .non H)∧(¬ (1<=k∧k<=6)->E (.ref ad.BadKinds) none H)
theorem qR {f:Addr}{fd:FuncData}(F:Fun K "looked_kinds" "looked_kinds" hX f fd)(tt:Txt K mg ad):bW P w K mg base (CX1 P w) 1 f fd ["kinds"] (uN ad):=by
 refine F.okX qT (fun vs H Q E h=>?_) (fun cdv A outer s H vs Q E hr h=>?_)
 ·obtain⟨k,rfl,_⟩:=h
  rfl
 ·obtain⟨k,rfl,q,x⟩:=h
  have hs:sizeLine=16777216:=sizeLine_eq;refine⟨_,(aE (bS (PW.pt (uS (aP kZ (pv 0) aG (aW _)) (mS (aP lY (pv 0) (aL dP (by rfl) tt.b_len a0 (aA (fI (by rfl) tt.g_LETTERS tt.r_LETTERS) aC)) (aW _))))) (aE (dS (E:=fun cls H'=>E cls none H') tt.x_BadKinds rfl (fun _ _ _ _ _ _ _ I hx q=>gF I hx q) (aA (bT [107,105,110,100,115,32,97,114,101,32,97,32,119,104,111,108,101,32,110,117,109,98,101,114,32,102,114,111,109,32,49,32,116,111,32,54] (by decide +kernel)) aC))) aY)),?_⟩
  (try rw[cP]);(try rw[cxK1])
  refine⟨_,rfl,_,_,rfl,rfl,_,rfl,?_⟩;refine fZ (fun h0=>vD ?_) (fun h0=>?_)
  ·have h1:k<1:=of_decide_eq_true h0
   exact⟨(by show 1<=sizeLine;omega),x fun z=>by omega⟩
  ·have h1:¬ k<1:=fun z=>h0 (decide_eq_true z)
   refine⟨_,rfl,_,rfl,(by show 6<=sizeLine;omega),_,_,rfl,rfl,_,rfl,?_⟩;refine fZ (fun h2=>?_) (fun h2=>?_)
   ·have h3:(6:Int)<k:=of_decide_eq_true h2
    exact⟨(by show 1<=sizeLine;omega),x fun z=>by omega⟩
   ·have h3:¬ (6:Int)<k:=fun z=>h2 (decide_eq_true z)
    exact q ⟨by omega,by omega⟩
def Ou (ad:Adr):Sp:=fun vs H Q E=>∃ n k:Int,vs=[.int n,.int k]∧((1<=k∧k<=6)->(1<=n∧n<=24)->Q .non H)∧(¬ (1<=k∧k<=6)->E (.ref ad.BadKinds) none H)∧((1<=k∧k<=6)->¬ (1<=n∧n<=24)->E (.ref ad.BadWord) none H)
theorem pQ {f:Addr}{fd:FuncData}(F:Fun K "looked_length" "looked_length" gE f fd)(tt:Txt K mg ad)(C_looked_kinds:Cal P w K mg base (CX1 P w) "looked_kinds" 1 ["kinds"] (uN ad)) :
  bW P w K mg base (CX1 P w) 2 f fd ["length", "kinds"] (Ou ad):=by
 refine F.okX oN (fun vs H Q E h=>?_) (fun cdv A outer s H vs Q E hr h=>?_)
 ·obtain⟨n,k,rfl,_⟩:=h
  rfl
 ·obtain⟨n,k,rfl,q,x1,x2⟩:=h
  have hs:sizeLine=16777216:=sizeLine_eq;refine⟨_,(aB (fB (aJ C_looked_kinds hr xG (aA (pv 1) aC)))
   (aE (bS (PW.pt (uS (aP kZ (pv 0) aG (aW _)) (mS (aP lY (pv 0) (fI (by rfl) tt.g_LONGEST tt.r_LONGEST) (aW _))))) (aE (dS (E:=fun cls H'=>E cls none H') tt.x_BadWord rfl (fun _ _ _ _ _ _ _ I hx q=>gF I hx q) (aA (bT [97,32,119,111,114,100,32,104,97,115,32,49,32,116,111,32,50,52,32,108,101,116,116,101,114,115] (by decide +kernel)) aC))) aY))),?_⟩
  (try rw[cP]);(try rw[cxK1])
  refine⟨_,rfl,k,rfl,fun hk=>?_,x1⟩;refine⟨_,rfl,_,_,rfl,rfl,_,rfl,?_⟩;refine fZ (fun h0=>vD ?_) (fun h0=>?_)
  ·have h1:n<1:=of_decide_eq_true h0
   exact⟨(by show 1<=sizeLine;omega),x2 hk fun z=>by omega⟩
  ·have h1:¬ n<1:=fun z=>h0 (decide_eq_true z)
   refine⟨_,rfl,_,_,rfl,rfl,_,rfl,?_⟩;refine fZ (fun h2=>?_) (fun h2=>?_)
   ·have h3:(24:Int)<n:=of_decide_eq_true h2
    exact⟨(by show 1<=sizeLine;omega),x2 hk fun z=>by omega⟩
   ·have h3:¬ (24:Int)<n:=fun z=>h2 (decide_eq_true z)
    exact q hk ⟨by omega,by omega⟩
def uF (ad:Adr):Sp:=fun vs H Q E=>∃ k:Int,vs=[.int k]∧(∀ kn:Nat,k=(kn:Nat)->(1<=kn∧kn<=6)->Q (T (([97,98,99,100,101,102]:List Nat).take kn)) H)∧(¬ (1<=k∧k<=6)->E (.ref ad.BadKinds) none H)
theorem Fn {f:Addr}{fd:FuncData}(F:Fun K "letters" "letters" pB f fd)(tt:Txt K mg ad)(C_looked_kinds:Cal P w K mg base (CX1 P w) "looked_kinds" 1 ["kinds"] (uN ad)):bW P w K mg base (CX1 P w) 2 f fd ["kinds"] (uF ad):=by
 refine F.okX Ct (fun vs H Q E h=>?_) (fun cdv A outer s H vs Q E hr h=>?_)
 ·obtain⟨k,rfl,_⟩:=h
  rfl
 ·obtain⟨k,rfl,q,x⟩:=h
  have hs:sizeLine=16777216:=sizeLine_eq;refine⟨_,(aB (fB (aJ C_looked_kinds hr xG (aA (pv 0) aC)))
   (aE (aV (bA lR (fI (by rfl) tt.g_LETTERS tt.r_LETTERS) bN (bJ (pv 0)))))),?_⟩
  (try rw[cP]);(try rw[cxK1])
  refine⟨_,rfl,k,rfl,fun hk=>?_,x⟩;obtain⟨kn,rfl⟩:∃ kn:Nat,k=(kn:Nat):=⟨k.toNat,by omega⟩;refine⟨_,rfl,_,rfl,_,rfl,(by show 6<=sizeLine;omega),?_⟩;rw[Fw (by show kn<=6;omega)];exact q kn rfl ⟨by omega,by omega⟩
def zB (w:List Nat)(kn:Nat):Prop:=(1<=w.length∧w.length<=24)∧∀ c∈w,97<=c∧c<97+kn
def wF (ad:Adr):Sp:=fun vs H Q E=>∃ (w:List Nat) (k:Int),vs=[T w,.int k]∧w.length<=100000∧(¬ (1<=k∧k<=6)->E (.ref ad.BadKinds) none H) ∧
 ∀ kn:Nat,k=(kn:Nat)->(1<=kn∧kn<=6)->(zB w kn->Q .non H)∧(¬ zB w kn->E (.ref ad.BadWord) none H)
theorem Ir {f:Addr}{fd:FuncData}(F:Fun K "looked" "looked" sY f fd)(tt:Txt K mg ad)(C_looked_length:Cal P w K mg base (CX1 P w) "looked_length" 2 ["length", "kinds"] (Ou ad))
  (C_letters:Cal P w K mg base (CX1 P w) "letters" 2 ["kinds"] (uF ad)):bW P w K mg base (CX1 P w) 3 f fd ["word", "kinds"] (wF ad):=by
 refine F.okX pS (fun vs H Q E h=>?_) (fun cdv A outer s H vs Q E hr h=>?_)
 ·obtain⟨w,k,rfl,_⟩:=h
  rfl
 ·obtain⟨w,k,rfl,hw,x1,q⟩:=h
  have hs:sizeLine=16777216:=sizeLine_eq;refine⟨_,(aB (fB (aJ C_looked_length hr xG (aA (aL dP (by rfl) tt.b_len a0 (aA (pv 0) aC)) (aA (pv 1) aC))))
   (aB (aI (i:=2) pS.nd rfl (Or.inl rfl) (aJ C_letters hr xG (aA (pv 1) aC)))
   (aE (cM PassesOwn.leaving rfl (Fg (pv 0)) (bK (i:=3) pS.nd rfl (Or.inl rfl)) (aE (bS (aP Co (pv 3) (pv 2) (by with_unfolding_all rfl)) (aE (dS (E:=fun cls H'=>E cls none H') tt.x_BadWord rfl (fun _ _ _ _ _ _ _ I hx q=>gF I hx q) (aA (bT [97,32,119,111,114,100,32,104,97,115,32,108,101,116,116,101,114,115,32,111,102,32,105,116,115,32,107,105,110,100,115,32,97,108,111,110,101] (by decide +kernel)) aC))) aY)))))),?_⟩
  (try rw[cP]);(try rw[cxK1])
  refine⟨_,rfl,_,rfl,(by omega),_,rfl,_,k,rfl,fun hk hn=>?_,x1,fun hk hn=>?_⟩
  rotate_left
  ·obtain⟨kn,rfl⟩:∃ kn:Nat,k=(kn:Nat):=⟨k.toNat,by omega⟩
   exact (q kn rfl ⟨by omega,by omega⟩).2 fun z=>hn ⟨by have:=z.1;omega,by have:=z.1;omega⟩
  obtain⟨kn,rfl⟩:∃ kn:Nat,k=(kn:Nat):=⟨k.toNat,by omega⟩;obtain⟨q1,q2⟩:=q kn rfl ⟨by omega,by omega⟩;refine⟨_,rfl,_,rfl,fun kn' ek hk'=>?_,fun z=>absurd hk z⟩;obtain rfl:kn=kn':=by omega
  refine⟨_,rfl,_,rfl,?_⟩;refine Oz (l:=w) (fun i σ H2=>H=H2∧(∀ c∈w.take i,97<=c∧c<97+kn)∧∃ v,σ=[some (T w),some (.int (kn:Nat)),some (T (([97,98,99,100,101,102]:List Nat).take kn)),v]) ⟨rfl,fun c hc=>(by simp at hc),none,rfl⟩ ?_ ?_
  ·rintro i c σ H2 hi ⟨rfl,hall,v,rfl⟩
   refine⟨_,rfl,_,rfl,_,rfl,_,rfl,_,rfl,?_⟩;refine fZ (fun h0=>?_) (fun h0=>?_)
   ·have h1:¬ c∈([97,98,99,100,101,102]:List Nat).take kn:=fun z=>by
     rw[decide_eq_true z] at h0;cases h0
    refine⟨(by show 1<=sizeLine;omega),q2 fun z=>h1 ?_⟩;exact (Gn (by omega)).mpr (z.2 c (au hi))
   ·have h1:c∈([97,98,99,100,101,102]:List Nat).take kn:=by
     apply a5;intro z;rw[decide_eq_false z] at h0;exact h0 rfl
    refine⟨rfl,fun d hd=>?_,_,rfl⟩;have hil:=(aw.mp hi).1;rw[ca,hi] at hd;rcases bu.mp hd with z | z
    ·exact hall d z
    ·have:d=c:=by simpa using z
     subst this;exact (Gn (by omega)).mp h1
  ·rintro σ H2 ⟨rfl,hall,v,rfl⟩
   rw[cf] at hall;exact q1 ⟨⟨by omega,by omega⟩,hall⟩
def rS (k:Nat)(ls:List (List Nat)):Prop:=∃ ps:List (List Nat),ps.length<=k∧∀ w∈ls,w.take (w.length-1)∈ps∧w.drop 1∈ps
def Few (ls:List (List Nat)):Prop:=rS 61 ls
theorem rS.sub {k:Nat}{ls ms:List (List Nat)}(h:rS k ls)(s:∀ w∈ms,w∈ls):rS k ms:=h.elim fun ps g=>⟨ps,g.1,fun w hw=>g.2 w (s w hw)⟩
theorem rS.len {k:Nat}{ls:List (List Nat)}(h:2*ls.length<=k):rS k ls:=⟨ls.map (fun w=>w.take (w.length-1))++ls.map (fun w=>w.drop 1),by rw[ak,aR,aR];omega,fun w hw=>⟨bu.mpr (.inl (ao.mpr ⟨w,hw,rfl⟩)),bu.mpr (.inr (ao.mpr ⟨w,hw,rfl⟩))⟩⟩
theorem Pu {ls:List (List Nat)}(h:ls.Nodup):(uniq ls).length=ls.length:=((dq (mH ls) h).mpr fun x=>gA ls x).length_eq
theorem Xa {H:Hp}{p x C dx:Addr}{fs:List (Str×V)}{xs:List V}{o:HO}(h:SqL K H p xs)(hx:H x=some (.ins C dx fs)):SqL K (upd H x o) p xs:=by
 rcases h with (h | ⟨q,h⟩) | h
 ·exact .inl (.inl (by rw[aM (fun z=>by subst z;rw[hx] at h;cases h)];exact h))
 ·exact .inl (.inr ⟨q,by rw[aM (fun z=>by subst z;rw[hx] at h;cases h)];exact h⟩)
 ·exact .inr h
def eK (ls:List (List Nat))(n:Nat):Prop:=ls≠[]∧ls.length<=60∧((1<=n∧n<=8)∧Few ls)∧(∀ x∈ls,x.length=n∧∀ c∈x,97<=c∧c<103)∧ls.Nodup
def Rb (K:ae):Sp:=fun vs H Q _=>∃ (p:Addr) (ls:List (List Nat)) (n:Nat),vs=[.ref p]∧SqL K H p (ls.map T)∧eK ls n∧∀ H',aK H H'->Q .non H'
theorem vV {f:Addr}{fd:FuncData}(F:Fun K "looked_web" "looked_web" jW f fd)(tt:Txt K mg ad)(C_looked:Cal P w K mg base (CX1 P w) "looked" 3 ["word", "kinds"] (wF ad)) :
  bW P w K mg base (CX1 P w) 4 f fd ["words"] (Rb K):=by
 refine F.okX mC (fun vs H Q E h=>?_) (fun cdv A outer s H vs Q E hr h=>?_)
 ·obtain⟨p,ls,n,rfl,_⟩:=h
  rfl
 ·obtain⟨p,ls,n,rfl,hS,⟨hne,h64,hn,hx,hnd⟩,q⟩:=h
  have hs:sizeLine=16777216:=sizeLine_eq;have hl0:0<ls.length:=cn.mpr hne;obtain⟨x0,hx0⟩:∃ x0,ls[0]?=some x0:=⟨_,aa hl0⟩;have hx0l:=(hx x0 (au hx0)).1;refine⟨_,(aB (bS (aP lY (aL aN (by rfl) tt.b_len a0 (aA (pv 0) aC)) (fI (by rfl) tt.g_MOST_OF_A_WEB tt.r_MOST_OF_A_WEB) (aW _)) (aE (dS (E:=fun cls H'=>E cls none H') tt.x_TooMany rfl (fun _ _ _ _ _ _ _ I hx q=>gF I hx q) (aA (bT [97,32,119,101,98,32,104,97,115,32,97,116,32,109,111,115,116,32,54,52,32,119,111,114,100,115] (by decide +kernel)) aC))) aY)
   (aB (bS (aP dL (aL aN (by rfl) tt.b_len a0 (aA (pv 0) aC)) aG (aW _)) (aE (dS (E:=fun cls H'=>E cls none H') tt.x_BadWord rfl (fun _ _ _ _ _ _ _ I hx q=>gF I hx q) (aA (bT [97,32,119,101,98,32,104,97,115,32,97,116,32,108,101,97,115,116,32,111,110,101,32,119,111,114,100] (by decide +kernel)) aC))) aY)
   (aB (cM PassesOwn.leaving rfl (bH (pv 0)) (bK (i:=1) mC.nd rfl (Or.inl rfl)) (aB (fB (aJ C_looked hr xG (aA (pv 1) (aA (aL dP (by rfl) tt.b_len a0 (aA (fI (by rfl) tt.g_LETTERS tt.r_LETTERS) aC)) aC))))
   (aB (bS (aP lY (aL dP (by rfl) tt.b_len a0 (aA (pv 1) aC)) (fI (by rfl) tt.g_LONGEST_OF_A_WEB tt.r_LONGEST_OF_A_WEB) (aW _)) (aE (dS (E:=fun cls H'=>E cls none H') tt.x_BadWord rfl (fun _ _ _ _ _ _ _ I hx q=>gF I hx q) (aA (bT [97,32,119,111,114,100,32,111,102,32,97,32,119,101,98,32,104,97,115,32,97,116,32,109,111,115,116,32,56,32,108,101,116,116,101,114,115] (by decide +kernel)) aC))) aY)
   (aE (bS (aP nG (aL dP (by rfl) tt.b_len a0 (aA (pv 1) aC)) (aL dP (by rfl) tt.b_len a0 (aA (cL cG (pv 0) aG (fun _ _=>rfl)) aC)) (aW _)) (aE (dS (E:=fun cls H'=>E cls none H') tt.x_BadWord rfl (fun _ _ _ _ _ _ _ I hx q=>gF I hx q) (aA (bT [116,104,101,32,119,111,114,100,115,32,111,102,32,97,32,119,101,98,32,104,97,118,101,32,111,110,101,32,108,101,110,103,116,104] (by decide +kernel)) aC))) aY)))))
   (aE (bS (aP nG (aL Jh (by rfl) tt.b_len a0 (aA (dU (Jo rfl) (by rfl) tt.b_set (by decide +kernel) (aA (pv 0) aC)) aC)) (aL aN (by rfl) tt.b_len a0 (aA (pv 0) aC)) (aW _)) (aE (dS (E:=fun cls H'=>E cls none H') tt.x_BadWord rfl (fun _ _ _ _ _ _ _ I hx q=>gF I hx q) (aA (bT [97,32,119,111,114,100,32,115,116,97,110,100,115,32,105,110,32,97,32,119,101,98,32,111,110,99,101] (by decide +kernel)) aC))) aY))))),?_⟩
  (try rw[cP]);(try rw[cxK1])
  refine⟨_,rfl,p,_,rfl,.inl hS,_,_,rfl,rfl,_,rfl,?_⟩;rw[aR];refine fZ (fun h0=>absurd (of_decide_eq_true h0) (by omega)) (fun _=>?_);refine⟨_,rfl,p,_,rfl,.inl hS,_,rfl,_,rfl,_,rfl,?_⟩;rw[aR];refine fZ (fun h0=>absurd (of_decide_eq_true h0) (by omega)) (fun _=>?_);refine⟨_,rfl,p,rfl,⟨_,hS⟩,?_⟩;refine dA (K:=K) (a:=p) (xs:=ls.map T) (fun i σ H2=>H2=H∧∃ v,σ=[some (.ref p),v]) ⟨rfl,none,rfl⟩ (fun i σ H2 _ h=>by rw[h.1];exact hS) ?_ ?_
  ·rintro i y σ H2 hi ⟨rfl,v,rfl⟩
   obtain⟨x,hxi,rfl⟩:∃ x,ls[i]?=some x∧y=T x:=by
    rw[ah] at hi;obtain⟨x,h1,h2⟩:=ba.mp hi;exact⟨x,h1,h2.symm⟩
   obtain⟨hxl,hxc⟩:=hx x (au hxi);have hg:∀ kn:Nat,(6:Int)=(kn:Nat)->zB x kn:=fun kn e=>⟨⟨by omega,by omega⟩,fun c hc=>by have:=hxc c hc;omega⟩
   refine⟨_,rfl,_,rfl,(by show 6<=sizeLine;omega),x,6,rfl,(by omega),fun z=>absurd ⟨by decide,by decide⟩ z,fun kn ek hk=>⟨fun _=>?_,fun z=>absurd (hg kn ek) z⟩⟩;refine⟨_,rfl,_,rfl,(by omega),_,_,rfl,rfl,_,rfl,?_⟩;refine fZ (fun h0=>absurd (of_decide_eq_true h0) (by omega)) (fun _=>?_);refine⟨_,rfl,_,rfl,(by omega),_,rfl,p,_,_,_,rfl,rfl,hS,bO (j:=0) (by rw[ah,hx0];rfl),_,rfl,(by omega),_,rfl,_,rfl,_,rfl,?_⟩;refine Ve (by rw[hxl,hx0l]) ?_;exact⟨rfl,_,rfl⟩
  ·rintro σ H2 ⟨rfl,v,rfl⟩
   refine⟨_,rfl,p,ls,rfl,hS,(by omega),fun D hD=>?_⟩;have sD:aK H2 (upd H2 D (Mf P w D (uniq ls))):=fun b o e=>by rw[aM (aO e hD)];exact e
   refine⟨D,_,rfl,aD,_,rfl,p,_,rfl,.inl (sD.seq hS),_,rfl,_,rfl,_,rfl,?_⟩;refine Ve (by rw[aR,Pu hnd]) ?_;exact q _ sD
def Rw (tp:Addr)(n:Int):List (Str×V):=jL "length" (.int n) (jL "words" (.ref tp) [])
theorem fO (tp:Addr)(n:Int):(Rw tp n).lookup ("words" : Str)=some (.ref tp):=by
 unfold Rw;rw[iF,if_neg (by decide +kernel),iF,if_pos rfl]
def Er (K:ae)(C:Addr):Sp:=fun vs H Q _=>∃ (x dx p:Addr) (ls:List (List Nat)) (n:Nat),vs=[.ref x,.ref p]∧H x=some (.ins C dx [])∧SqL K H p (ls.map T)∧eK ls n ∧
 ∀ (tp:Addr) (ms:List (List Nat)) (H':Hp),ms.Perm ls->ms.Pairwise (fun a b=>¬ b<a)->(∀ b o,H b=some o->b≠x->H' b=some o)->H' x=some (.ins C dx (Rw tp (n:Nat)))->H' tp=some (.tup (ms.map T))->Q .non H'
theorem As {f:Addr}{fd:FuncData}(F:Fun K "__init__" "Web.__init__" fR f fd)(tt:Txt K mg ad)(C_looked_web:Cal P w K mg base (CX1 P w) "looked_web" 4 ["words"] (Rb K)) :
  bW P w K mg base (CX1 P w) 5 f fd ["self", "words"] (Er K ad.Web):=by
 refine F.okX Bw (fun vs H Q E h=>?_) (fun cdv A outer s H vs Q E hr h=>?_)
 ·obtain⟨x,dx,p,ls,n,rfl,_⟩:=h
  rfl
 ·obtain⟨x,dx,p,ls,n,rfl,hx,hS,hok,q⟩:=h
  have hs:sizeLine=16777216:=sizeLine_eq;obtain⟨hne,h64,hn,hxs,hnd⟩:=id hok;have hl0:0<ls.length:=cn.mpr hne;obtain⟨x0,hx0⟩:∃ x0,ls[0]?=some x0:=⟨_,aa hl0⟩;have hx0l:=(hxs x0 (au hx0)).1;refine⟨_,(aB (fB (aJ C_looked_web hr xG (aA (pv 1) aC)))
   (aB (Na (pv 0) (dU iR (by rfl) tt.b_tuple (by decide +kernel) (aA (aL gH (by rfl) tt.b_sorted di (aA (pv 1) aC)) aC)) rfl)
   (aE (Na (pv 0) (aL dP (by rfl) tt.b_len a0 (aA (cL cG (pv 1) aG (fun _ _=>rfl)) aC)) rfl)))),?_⟩
  (try rw[cP]);(try rw[cxK1])
  refine⟨_,rfl,p,ls,n,rfl,hS,hok,fun H1 s1=>?_⟩;refine⟨_,rfl,p,ls,rfl,s1.seq hS,(by omega),fun ms D hD hperm hpw=>?_⟩;have s2:aK H1 (upd H1 D (.lst (ms.map T))):=fun b o e=>by rw[aM (aO e hD)];exact e
  refine⟨D,_,rfl,.inl ⟨SqL.of aD,fun tp htp=>?_⟩⟩;have s3:aK (upd H1 D (.lst (ms.map T))) (upd (upd H1 D (.lst (ms.map T))) tp (.tup (ms.map T))):=fun b o e=>by rw[aM (aO e htp)];exact e
  generalize hH3:upd (upd H1 D (.lst (ms.map T))) tp (.tup (ms.map T))=H3 at s3;have htp3:H3 tp=some (.tup (ms.map T)):=by rw[<- hH3];exact aD
  have s13:aK H H3:=s1.trans (s2.trans s3);have hx3:=s13 x _ hx;have hxt:tp≠x:=fun z=>by subst z;rw[htp3] at hx3;cases hx3
  refine⟨_,rfl,x,ad.Web,dx,[],rfl,hx3,tt.cl_Web,tt.na_Web_words,(by show 0<1000;decide),?_⟩;have hS4:SqL K (upd H3 x (.ins ad.Web dx (jL "words" (.ref tp) []))) p (ls.map T):=Xa (s13.seq hS) hx3
  refine⟨_,rfl,p,_,_,_,rfl,rfl,hS4,bO (j:=0) (by rw[ah,hx0];rfl),_,rfl,(by omega),_,rfl,x,ad.Web,dx,_,rfl,aD,tt.cl_Web,tt.na_Web_length,(by show 1<1000;decide),?_⟩;refine q tp ms _ hperm hpw (fun b o e hb=>?_) ?_ ?_
  ·rw[aM hb,aM hb]
   exact s13 b o e
  ·rw[aD,hx0l]
   rfl
  ·rw[aM hxt,aM hxt]
   exact htp3
def fL (C:Addr)(H:Hp)(x tp:Addr)(n:Nat)(ms:List (List Nat)):Prop:=(∃ dx,H x=some (.ins C dx (Rw tp (n:Nat))))∧H tp=some (.tup (ms.map T))
theorem fL.on {C:Addr}{H H':Hp}{x tp:Addr}{n:Nat}{ms:List (List Nat)}(h:fL C H x tp n ms)(s:aK H H'):fL C H' x tp n ms:=let ⟨⟨dx,e⟩,t⟩:=h;⟨⟨dx,s _ _ e⟩,s _ _ t⟩
def gJ:Sp:=fun vs H Q _=>∃ t:List Nat,vs=[T t]∧(1<=t.length∧t.length<=1000)∧Q (T (t.take (t.length-1))) H
theorem iZ {t:List Nat}(h:1<=t.length):fP t none (some (-1))=t.take (t.length-1):=by
 unfold fP;rw[HT.eO,gd,iu];show t.take (if (-1:Int)<0 then ((-1:Int)+(t.length:Int)).toNat else min (-1:Int).toNat t.length)=_;rw[if_pos (by decide),show ((-1:Int)+(t.length:Int)).toNat=t.length-1 by omega]
theorem Ba {f:Addr}{fd:FuncData}(F:Fun K "begin_of" "begin_of" mI f fd)(tt:Txt K mg ad):bW P w K mg base (CX1 P w) 1 f fd ["word"] gJ:=by
 refine F.okN Av (fun vs H Q E h=>?_) (fun cdv A outer s H vs Q E hr h=>?_)
 ·obtain⟨t,rfl,_⟩:=h
  rfl
 ·obtain⟨t,rfl,hl,q⟩:=h
  have hs:sizeLine=16777216:=sizeLine_eq;refine⟨_,(aE (aV (bA lR (pv 0) bN (bJ (mF iO aG))))),?_⟩
  (try rw[cP]);(try rw[cxK1])
  refine⟨_,rfl,_,rfl,_,rfl,_,rfl,(by omega),?_⟩;rw[show -(1:Int) = -1 from rfl,iZ hl.1];exact q
def nM:Sp:=fun vs H Q _=>∃ t:List Nat,vs=[T t]∧(1<=t.length∧t.length<=1000)∧Q (T (t.drop 1)) H
theorem Ka {f:Addr}{fd:FuncData}(F:Fun K "end_of" "end_of" sU f fd)(tt:Txt K mg ad):bW P w K mg base (CX1 P w) 1 f fd ["word"] nM:=by
 refine F.okN Iw (fun vs H Q E h=>?_) (fun cdv A outer s H vs Q E hr h=>?_)
 ·obtain⟨t,rfl,_⟩:=h
  rfl
 ·obtain⟨t,rfl,hl,q⟩:=h
  have hs:sizeLine=16777216:=sizeLine_eq;refine⟨_,(aE (aV (bA lR (pv 0) (bJ aG) bN))),?_⟩
  (try rw[cP]);(try rw[cxK1])
  refine⟨_,rfl,_,rfl,_,rfl,(by omega),?_⟩;have e:fP t (some 1) none=t.drop 1:=jD (k:=1) hl.1;rw[e];exact q
theorem aH {H:Hp}{D:Addr}{o:HO}(h:H D=none):aK H (upd H D o):=fun b u e=>by rw[aM (aO e h)];exact e
theorem Qo {H G:Hp}(s:aK H G):∃ H',H'=G∧aK H H':=⟨G,rfl,s⟩
theorem yD {H G:Hp}{D:Addr}{o:HO}(s:aK H (upd G D o)):∃ H',H'=upd G D o∧aK H H'∧H' D=some o:=⟨_,rfl,s,aD⟩
def Sq (K:ae)(H:Hp)(p:Addr)(xs:List V):Prop:=SqL K H p xs∨SqT K H p xs
theorem Sq.on {K:ae}{H H':Hp}{p:Addr}{xs:List V}(h:Sq K H p xs)(s:aK H H'):Sq K H' p xs:=h.elim (fun z=>.inl (s.seq z)) fun z=>.inr (qD s z)
def beg (l:List Nat):List Nat:=l.take (l.length-1)
def Abc (x:List Nat):Prop:=∀ c∈x,97<=c∧c<103
theorem uT {t:List Nat}:∀ {ls:List (List Nat)},inV (T t) (ls.map T)=decide (t∈ls)
 | []=>by simp[inV]
 | l::ls=>by
  have ih:=@uT t ls;have e:inV (T t) ((l::ls).map T)=(eqV (T l) (T t)||inV (T t) (ls.map T)):=rfl;have e2:eqV (T l) (T t)=decide (t=l):=by
   show (tx l==tx t)=decide (t=l);rw[c9,beq_iff_eq,decide_eq_true_iff];exact⟨fun h=>(eX h).symm,fun h=>by rw[h]⟩
  rw[e,ih,e2,c9,jm,decide_eq_true_iff,decide_eq_true_iff,decide_eq_true_iff,ar]
theorem kO (ls:List (List Nat)):(ls.map T).map (fun v=>v)=ls.map T:=iw _
theorem itP {c A B:Prop}[Decidable c](hc:c)(h:A):if c then A else B:=by rw[if_pos hc];exact h
theorem itN {c A B:Prop}[Decidable c](hc:¬ c)(h:B):if c then A else B:=by rw[if_neg hc];exact h
theorem uB {xs:List V}{k:Nat}(h:k<=xs.length):dE xs (some (k:Int)) none=xs.drop k:=by
 unfold dE;rw[HT.eO,show HT.sIx xs.length 0 (some (k:Int))=min k xs.length from HT.eF _ _ k,fm h,cj (by rw[a9];exact af _)]
theorem Xx {xs:List V}{k:Nat}(h:k<=xs.length):dE xs none (some (k:Int))=xs.take k:=by
 unfold dE;rw[HT.eO,gd,iu,HT.eF,fm h]
theorem eU {i:Int}{n:Nat}(h:i.natAbs<=n)(hn:n<2 ^ 8000):Bg i:=eh h hn
theorem jQ {n k:Nat}(h:n<2 ^ k)(hk:k<=8000):n<2 ^ 8000:=bx h (db (by decide) hk)
theorem lG {ns:List Int}{j:Nat}(h:j<ns.length):(ns.map V.int)[j]?=some (.int (ns.getD j 0)):=by
 rw[ah,ai,aa h];rfl
theorem SqL.keepTwo {K:ae}{H G:Hp}{a:Addr}{xs:List V}(h:SqL K H a xs)(k:∀ o,H a=some o->G a=some o):SqL K G a xs:=by
 rcases h with (h | ⟨q,h⟩) | h
 ·exact .inl (.inl (k _ h))
 ·exact .inl (.inr ⟨q,k _ h⟩)
 ·exact .inr h
def Dx:Sp:=fun vs H Q _=>∃ (num:Int) (pr:Nat),vs=[.int num,.int (pr:Nat)]∧Dt.dC pr∧pr<2 ^ 1000∧num % (pr:Int)≠0∧∀ inv:Int,Dt.Cg pr (inv*num) 1->0<=inv∧inv<pr->Q (.int inv) H
theorem Fk {f:Addr}{fd:FuncData}(F:Fun K "inverse" "inverse" oW f fd)(tt:Txt K mg ad):bW P w K mg base (CX1 P w) 1 f fd ["number", "prime"] Dx:=by
 refine F.okN cN (fun vs H Q E h=>?_) (fun cdv A outer s H vs Q E hr h=>?_)
 ·obtain⟨num,pr,rfl,_⟩:=h
  rfl
 ·obtain⟨num,pr,rfl,hp,hpl,h0,q⟩:=h
  have hp1:=hp.1;have hpos:(0:Int)<(pr:Int):=by omega
  have h8:=jQ hpl (by decide);obtain⟨r,hr'⟩:∃ r:Nat,num % (pr:Int)=r:=⟨(num % pr).toNat,by have:=dk num (show (pr:Int)≠0 by omega);omega⟩;have hrl:r<pr:=by have:=cx num hpos;omega
  refine⟨_,(aB (aI (i:=2) cN.nd rfl (Or.inl rfl) (pv 1))
   (aB (aI (i:=3) cN.nd rfl (Or.inl rfl) (aQ cT (pv 0) (pv 1)))
   (aB (aI (i:=4) cN.nd rfl (Or.inl rfl) aG)
   (aB (aI (i:=5) cN.nd rfl (Or.inl rfl) aG)
   (aB (iX PassesOwn.never (aP nG (pv 3) aG (aW _)) (aB (aI (i:=6) cN.nd rfl (Or.inl rfl) (aQ Ql (pv 2) (pv 3)))
   (aB (aI (i:=7) cN.nd rfl (Or.inl rfl) (aQ eR (pv 2) (aQ eE (pv 6) (pv 3))))
   (aB (aI (i:=2) cN.nd rfl (Or.inl rfl) (pv 3))
   (aB (aI (i:=3) cN.nd rfl (Or.inl rfl) (pv 7))
   (aB (aI (i:=8) cN.nd rfl (Or.inl rfl) (aQ eR (pv 4) (aQ eE (pv 6) (pv 5))))
   (aB (aI (i:=4) cN.nd rfl (Or.inl rfl) (pv 5))
   (aE (aI (i:=5) cN.nd rfl (Or.inl rfl) (pv 8))))))))))
   (aE (aV (aQ cT (pv 5) (pv 1))))))))),?_⟩
  (try rw[cP]);(try rw[cxK1])
  refine⟨_,rfl,?_⟩;refine⟨_,rfl,_,rfl,_,_,rfl,rfl,hpos,?_⟩;refine⟨fun m σ H2=>H2=H∧∃ (last rest:Nat) (lt t:Int) (v6 v7 v8:Option V),m=rest∧Dt.Euc pr num last rest lt t∧(last<=pr∧rest<=pr)∧σ=[some (.int num),some (.int (pr:Nat)),some (.int (last:Nat)),some (.int (rest:Nat)),some (.int lt),some (.int t),v6,v7,v8],
   ⟨_,rfl,pr,r,0,1,none,none,none,rfl,Dt.Euc.init hp hr' (by omega),⟨af _,by omega⟩,by rw[<- hr'];rfl⟩,?_⟩
  rintro m σ H2 ⟨rfl,last,rest,lt,t,v6,v7,v8,rfl,he,⟨hl,hrp⟩,rfl⟩;have hpo:=he.pos;obtain⟨ht,hlt⟩:=he.tle;refine⟨_,rfl,_,rfl,_,rfl,_,rfl,?_⟩;by_cases h1:m=1
  ·refine itN (by rw[decide_eq_true (by omega)];exact am) ?_
   exact⟨_,rfl,_,rfl,_,_,rfl,rfl,hpos,q _ (he.fin h1) ⟨dk _ (by omega),cx _ hpos⟩⟩
  ·refine itP (by rw[decide_eq_false (by omega)];rfl) ?_
   refine⟨_,fun σ' H' z=>z,?_⟩;have hq1:=tw last m;have bm:Bg ((m:Nat):Int):=eU (n:=pr) (by rw[ei];exact hrp) h8;have bq:Bg ((last/m:Nat):Int):=eU (n:=pr) (by rw[ei];omega) h8;refine⟨_,rfl,_,rfl,_,_,rfl,rfl,⟨by show (0:Int)<(m:Int);omega,bm⟩,?_⟩;refine⟨_,rfl,_,rfl,_,rfl,_,_,rfl,rfl,⟨bq,bm⟩,_,_,rfl,rfl,?_⟩;have e1:((last:Nat):Int)-((last/m:Nat):Int)*((m:Nat):Int)=((last % m:Nat):Int):=by
    have h:=congrArg (fun n:Nat=>(n:Int)) (o9 last m);simp only [l7,fk] at h;rw[gq] at h;omega
   refine⟨_,rfl,?_⟩;refine⟨_,rfl,?_⟩;refine⟨_,rfl,_,rfl,_,rfl,_,_,rfl,rfl,⟨bq,eU ht h8⟩,_,_,rfl,rfl,?_⟩;refine⟨_,rfl,?_⟩;refine⟨_,rfl,?_⟩;have hml:=jx last (show m>0 by omega);exact⟨last % m,hml,rfl,m,last % m,t,_,_,_,_,rfl,he.step h1,⟨hrp,by omega⟩,by rw[<- e1];rfl⟩
def low (back:Int)(pr:Nat)(top row:List Int):List Int:=oy (fun x y=>x-row.getD 0 0*back % (pr:Int)*y) (row.drop 1) (top.drop 1)
structure Bp (back:Int)(pr n:Nat)(top row:List Int):Prop where
 l1:row.length=n+1
 l2:top.length=n+1
 sz:n<=1000
 pos:0<pr
 ps:pr<2 ^ 1000
 b0:Bg (row.getD 0 0)
 bk:back.natAbs<=pr
 tp:∀ y∈top,y.natAbs<=pr
def Uo (K:ae):Sp:=fun vs H Q _=>∃ (a b:Addr) (back:Int) (pr n:Nat) (row top:List Int),vs=[.ref a,.ref b,.int back,.int (pr:Nat)]∧SqL K H a (row.map V.int)∧SqL K H b (top.map V.int)∧Bp back pr n top row∧∀ D H',H D=none->aK H H'->H' D=some (.lst ((low back pr top row).map V.int))->Q (.ref D) H'
theorem Du {f:Addr}{fd:FuncData}(F:Fun K "lowered" "lowered" lI f fd)(tt:Txt K mg ad):bW P w K mg base (CX1 P w) 1 f fd ["row", "top", "back", "prime"] (Uo K):=by
 refine F.okN sX (fun vs H Q E h=>?_) (fun cdv A outer s H vs Q E hr h=>?_)
 ·obtain⟨a,b,back,pr,n,row,top,rfl,_⟩:=h
  rfl
 ·obtain⟨a,b,back,pr,n,row,top,rfl,hA,hB,ok,q⟩:=h
  have hs:sizeLine=16777216:=sizeLine_eq;obtain⟨l1,l2,sz,pos,ps,b0,bk,tp⟩:=ok;have hpos:(0:Int)<(pr:Int):=by omega
  have h8:=jQ ps (by decide);have t0:=dk (row.getD 0 0*back) (show (pr:Int)≠0 by omega);have t1:=cx (row.getD 0 0*back) hpos;refine⟨_,(aB (aI (i:=4) sX.nd rfl (Or.inr rfl) (aQ cT (aQ eE (cL cG (pv 0) aG (fun _ _=>rfl)) (pv 2)) (pv 3)))
   (aB (bS (aP dL (pv 4) aG (aW _)) (aE (aV (bA eP (pv 0) (bJ aG) bN))) aY)
   (aE (aV (Qs yP rfl (Xm (by rfl) tt.b_zip (aA (bA eP (pv 0) (bJ aG) bN) (aA (bA eP (pv 1) (bJ aG) bN) aC))) (fun cl C s' H' fp=>(aQ eR (pv 0) (aQ eE (pv 6) (pv 1))))))))),?_⟩
  (try rw[cP]);(try rw[cxK1])
  refine⟨_,rfl,a,_,_,_,rfl,rfl,hA,bO (j:=0) (lG (by omega)),_,rfl,_,_,rfl,rfl,⟨b0,eU bk h8⟩,_,rfl,_,_,rfl,rfl,hpos,?_⟩;refine⟨_,rfl,_,rfl,_,rfl,_,rfl,?_⟩;have cA:dE (row.map V.int) (some (1:Int)) none=(row.drop 1).map V.int:=by rw[kg];exact uB (k:=1) (by rw[aR];omega)
  have cB:dE (top.map V.int) (some (1:Int)) none=(top.drop 1).map V.int:=by rw[kg];exact uB (k:=1) (by rw[aR];omega)
  by_cases hz:row.getD 0 0*back % (pr:Int)=0
  ·refine itP (decide_eq_true hz) ?_
   refine⟨_,rfl,_,rfl,a,_,rfl,hA,fun p hp=>?_⟩;rw[cA];refine q p _ hp (aH hp) ?_;rw[aD]
   congr 3
   unfold low;rw[hz];refine fe fun i=>?_
   rw[lj];by_cases hi:i<n
   ·rw[aa (l:=row.drop 1) (by rw[a9];omega),aa (l:=top.drop 1) (by rw[a9];omega)]
    show some _=some _;rw[oq,mj]
   ·rw[bn (by rw[a9];omega)]
  ·refine itN (fun z=>hz (of_decide_eq_true z)) ?_
   refine⟨_,rfl,_,rfl,a,_,rfl,hA,fun p1 hp1=>?_⟩;rw[cA];have t1':=aH (o:=.lst ((row.drop 1).map V.int)) hp1;refine⟨_,rfl,_,rfl,b,_,rfl,t1'.seq hB,fun p2 hp2=>?_⟩;rw[cB];have t2':=aH (o:=.lst ((top.drop 1).map V.int)) hp2;refine⟨p1,p2,rfl,⟨_,SqL.of (t2' p1 _ aD)⟩,⟨_,SqL.of aD⟩,?_⟩;refine Oi (fun x y=>match x,y with | .int i,.int j=>.int (i-row.getD 0 0*back % (pr:Int)*j) | _,_=>.non) (SqL.of (t2' p1 _ aD)) (SqL.of aD) (by rw[aR,aR,a9,a9,l1,l2]) (by rw[aR,a9];omega) (fun i x y H' hx hy s' N hN=>?_) fun D H' hD s' hd=>?_
   ·rw[ah] at hx hy
    obtain⟨i1,hi1,rfl⟩:=ba.mp hx;obtain⟨j1,hj1,rfl⟩:=ba.mp hy;have hj2:=tp j1 (qe (au hj1));exact⟨_,rfl,_,rfl,_,rfl,_,_,rfl,rfl,⟨eU (n:=pr) (by omega) h8,eU hj2 h8⟩,_,_,rfl,rfl,hN H' (aK.refl _)⟩
   ·have hD0:H D=none:=by
     cases e:H D with
     | none=>rfl
     | some o=>have:=(t1'.trans t2') D o e;rw[hD] at this;cases this
    refine q D H' hD0 (t1'.trans (t2'.trans s')) ?_;rw[hd]
    congr 3
    unfold low;rw[List.zipWith_map,List.map_zipWith]
def Gz (K:ae):Sp:=fun vs H Q _=>∃ (a:Addr) (ns:List Int),vs=[.ref a]∧SqL K H a (ns.map V.int)∧(∀ H',aK H H'->(∀ x∈ns,x=0)->Q .non H')∧∀ (p:Nat) (H':Hp),aK H H'->p<ns.length->ns.getD p 0≠0->Q (.int (p:Nat)) H'
theorem gU {f:Addr}{fd:FuncData}(F:Fun K "first_other_than_nought" "first_other_than_nought" cU f fd)(tt:Txt K mg ad):bW P w K mg base (CX1 P w) 1 f fd ["numbers"] (Gz K):=by
 refine F.okN cR (fun vs H Q E h=>?_) (fun cdv A outer s H vs Q E hr h=>?_)
 ·obtain⟨a,ns,rfl,_⟩:=h
  rfl
 ·obtain⟨a,ns,rfl,hA,q0,q1⟩:=h
  refine⟨_,(aB (cM PassesOwn.never rfl (Ug (by rfl) tt.b_enumerate (aA (pv 0) aC)) (Cu rfl (iS (bK (i:=1) cR.nd rfl (Or.inl rfl)) (iS (bK (i:=2) cR.nd rfl (Or.inl rfl)) zA))) (aE (bS (aP nG (pv 2) aG (aW _)) (aE (aV (pv 1))) aY)))
   (aE (aV Fm))),?_⟩
  (try rw[cP]);(try rw[cxK1])
  refine⟨_,rfl,a,rfl,⟨_,hA⟩,?_⟩;refine Pw (K:=K) (a:=a) (xs:=ns.map V.int) (fun i σ H2=>aK H H2∧(∀ j,j<i->ns.getD j 0=0)∧∃ v1 v2:Option V,σ=[some (.ref a),v1,v2]) ⟨aK.refl _,fun j hj=>absurd hj (l8 j),none,none,rfl⟩ (fun i σ H2 _ h=>h.1.seq hA) ?_ ?_
  ·rintro i x p σ H2 hx hp ⟨s2,hz,v1,v2,rfl⟩
   have hi:i<ns.length:=by have:=(aw.mp hx).1;rwa [aR] at this
   rw[lG hi] at hx;obtain rfl:=a8 hx;have t2:=aH (o:=.tup [.int (i:Nat),.int (ns.getD i 0)]) hp;refine⟨p,_,rfl,SqT.of aD,rfl,_,_,rfl,_,_,rfl,rfl,?_⟩;refine⟨_,rfl,_,rfl,_,rfl,_,rfl,?_⟩;by_cases h0:ns.getD i 0=0
   ·refine itN (by rw[decide_eq_true h0];exact am) ?_
    exact⟨s2.trans t2,fun j hj=>by
     rcases gt j i with z | z
     ·exact hz j z
     ·rw[show j=i by omega];exact h0,_,_,rfl⟩
   ·refine itP (by rw[decide_eq_false h0];rfl) ?_
    exact⟨_,rfl,q1 i _ (s2.trans t2) hi h0⟩
  ·rintro σ H2 ⟨s2,hz,v1,v2,rfl⟩
   rw[aR] at hz;exact q0 H2 s2 fun x hx=>by
    obtain⟨j,hj⟩:=fu hx;have hjl:=(aw.mp hj).1
    have:=hz j hjl
    rwa [ai,hj] at this
structure Pb (M:List (List Int))(n pr E:Nat):Prop where
 len:M.length=n
 row:∀ r∈M,r.length=n
 sz:n<=100
 pm:Dt.dC pr
 ps:pr<2 ^ 1000
 be:∀ r∈M,∀ x∈r,x.natAbs<=E
 bd:E+n*(pr*pr)<2 ^ 8000
def Qu (K:ae):Sp:=fun vs H Q _=>∃ (a:Addr) (as:List Addr) (M:List (List Int)) (n pr E:Nat),vs=[.ref a,.int (pr:Nat)]∧SqL K H a (as.map V.ref)∧dO K H as M∧Pb M n pr E∧∀ (r:Int) (H':Hp),aK H H'->0<=r∧r<pr->Dt.Cg pr r (Dt.det n (Dt.ent M))->Q (.int r) H'
theorem nZ {ns:List Int}{j:Nat}(h:j<ns.length):ns.getD j 0∈ns:=by
 rw[ai,aa h];exact cy h
theorem Fu {back:Int}{pr n:Nat}{top row:List Int}(h:Bp back pr n top row):(low back pr top row).length=n:=by
 unfold low
 have:=h.l1
 have:=h.l2
 rw[qj,a9,a9];omega
theorem Il {back:Int}{pr n:Nat}{top row:List Int}(h:Bp back pr n top row){k:Nat}(hk:k<n):(low back pr top row).getD k 0=row.getD (k+1) 0-row.getD 0 0*back % (pr:Int)*top.getD (k+1) 0:=by
 have h1:=h.l1;have h2:=h.l2;unfold low;rw[ai,lj,gk,gk,iq 1 k,aa (show k+1<row.length by omega),aa (show k+1<top.length by omega),ai (l:=row) (i:=k+1),aa (show k+1<row.length by omega),ai (l:=top),aa (show k+1<top.length by omega)];rfl
theorem Ry {back:Int}{pr n E:Nat}{top row:List Int}(h:Bp back pr n top row)(hE:∀ x∈row,x.natAbs<=E):∀ x∈low back pr top row,x.natAbs<=E+pr*pr:=fun x hx=>by
 obtain⟨k,hk⟩:=fu hx;have hkl:=(aw.mp hk).1;rw[Fu h] at hkl;have h1:=h.l1;have h2:=h.l2;have e:=Il h hkl;rw[ai,hk] at e;have e:x=_:=e;have b1:=hE _ (nZ (ns:=row) (j:=k+1) (by omega));have b2:=h.tp _ (nZ (ns:=top) (j:=k+1) (by omega));have hp:=h.pos;have t0:=dk (row.getD 0 0*back) (show (pr:Int)≠0 by omega);have t1:=cx (row.getD 0 0*back) (show (0:Int)<pr by omega);have b3:=ri (row.getD (k+1) 0) (row.getD 0 0*back % (pr:Int)*top.getD (k+1) 0);rw[mx] at b3;have b4:(row.getD 0 0*back % (pr:Int)).natAbs*(top.getD (k+1) 0).natAbs<=pr*pr:=fg (by omega) b2;rw[e];omega
theorem lU {f:Addr}{fd:FuncData}(F:Fun K "determinant_rest" "determinant_rest" cI f fd)(tt:Txt K mg ad)(C_first_other_than_nought:Cal P w K mg base (CX1 P w) "first_other_than_nought" 1 ["numbers"] (Gz K))(C_inverse:Cal P w K mg base (CX1 P w) "inverse" 1 ["number", "prime"] Dx)(C_lowered:Cal P w K mg base (CX1 P w) "lowered" 1 ["row", "top", "back", "prime"] (Uo K)):bW P w K mg base (CX1 P w) 2 f fd ["square", "prime"] (Qu K):=by
 refine F.okN bF (fun vs H Q E h=>?_) (fun cdv A outer s H vs Q E hr h=>?_)
 ·obtain⟨a,as,M,n,pr,E0,rfl,_⟩:=h
  rfl
 ·obtain⟨a,as,M,n,pr,B,rfl,hA,hR,ok,q⟩:=h
  have hs:sizeLine=16777216:=sizeLine_eq;have hu:=ld (fW hr);obtain⟨len,row,sz,pm,ps,be,bd⟩:=ok;have hp1:=pm.1;have hpos:(0:Int)<(pr:Int):=by omega
  have h8:=jQ ps (by decide);refine⟨_,(aB (aI (i:=2) bF.nd rfl (Or.inl rfl) (dU nJ (by rfl) tt.b_list (by decide +kernel) (aA (pv 0) aC)))
   (aB (aI (i:=3) bF.nd rfl (Or.inl rfl) aG)
   (aB (iX PassesOwn.never (aP (Bs K rfl hu) (pv 2) (cJ aC) (aW _)) (aB (aI (i:=4) bF.nd rfl (Or.inl rfl) (aJ C_first_other_than_nought hr aS (aA (cV kD rfl (bH (pv 2)) (fun cl C s' H' fp=>(aQ cT (cL (Jz K rfl) (pv 0) aG (fun _ _=>rfl)) (pv 2)))) aC)))
   (aB (bS (kU (yO (pv 4))) (aE (aV aG)) aY)
   (aB (aI (i:=5) bF.nd rfl (Or.inr rfl) (cV kB rfl (bH (cL cG (pv 2) (pv 4) (fun _ _=>rfl))) (fun cl C s' H' fp=>(aQ cT (pv 0) (pv 2)))))
   (aB (aI (i:=6) bF.nd rfl (Or.inr rfl) (aJ C_inverse hr aS (aA (cL cG (pv 5) aG (fun _ _=>rfl)) (aA (pv 1) aC))))
   (aB (aI (i:=3) bF.nd rfl (Or.inl rfl) (aQ cT (aQ eE (pv 3) (cL cG (pv 5) aG (fun _ _=>rfl))) (pv 1)))
   (aB (Vd (t':=(fun D σ H=>∃ (x0 x2:V) (pr:Nat) (rst:Int) (p:Nat) (v5 v6:Option V),σ=[some x0,some (.int (pr:Nat)),some x2,some (.int rst),some (.int (p:Nat)),v5,v6]∧D.nx [some x0,some (.int (pr:Nat)),some x2,some (.int (if p % 2=1 then (pr:Int)-rst else rst)),some (.int (p:Nat)),v5,v6] H)) (bS (aP dL (aQ cT (pv 4) aG) aG (aW _)) (aE (aI (i:=3) bF.nd rfl (Or.inl rfl) (aQ eR (pv 1) (pv 3)))) aY) ?rA)
   (aE (Ey (i:=2) kC rfl (bH (aQ iB (bA eP (pv 2) bN (bJ (pv 4))) (bA eP (pv 2) (bJ (aQ dJ (pv 4) aG)) bN))) (fun cl C s' H' fp=>(aJ C_lowered hr aS (aA (pv 0) (aA (pv 6) (aA (pv 7) (aA (pv 2) aC)))))) bF.nd rfl rfl)))))))))
   (aE (aV (pv 3)))))),?_⟩
  (try rw[cP]);(try rw[cxK1])
  case rA =>
   rintro D σ H ⟨x0,x2,pr,rst,p,v5,v6,rfl,nxt⟩;refine⟨_,rfl,_,_,rfl,rfl,(by show (0:Int)<2;decide),_,rfl,_,rfl,_,rfl,?_⟩;by_cases h2:p % 2=1
   ·refine itP (decide_eq_true (by omega)) ?_
    refine⟨_,rfl,_,rfl,_,_,rfl,rfl,?_⟩;rw[if_pos h2] at nxt;exact nxt
   ·refine itN (fun z=>h2 (by have:=of_decide_eq_true z;omega)) ?_
    rw[if_neg h2] at nxt;exact nxt
  refine⟨_,rfl,a,_,rfl,.inl hA,fun L0 hL0=>?_⟩;have t0:=aH (o:=.lst (as.map V.ref)) hL0;refine⟨fun m σ G=>∃ (Lr:Addr) (bs:List Addr) (N:List (List Int)) (k:Nat) (rest:Int) (v4 v5 v6:Option V),aK H G∧G Lr=some (.lst (bs.map V.ref))∧dO K G bs N∧N.length=m∧(∀ r∈N,r.length=m)∧m+k=n∧(∀ r∈N,∀ x∈r,x.natAbs<=B+k*(pr*pr))∧(0<rest∧rest<pr)∧Dt.Cg pr (rest*Dt.det m (Dt.ent N)) (Dt.det n (Dt.ent M))∧σ=[some (.ref a),some (.int (pr:Nat)),some (.ref Lr),some (.int rest),v4,v5,v6],
   ⟨n,L0,as,M,0,1,none,none,none,t0,aD,hR.on t0,len,row,by omega,fun r hr x hx=>by rw[oo];exact be r hr x hx,⟨by decide,by omega⟩,by rw[jf];exact Dt.Cg.refl _,rfl⟩,?_⟩
  rintro m σ G ⟨Lr,bs,N,k,rest,v4,v5,v6,sG,hL,hN,hNl,hNr,hmk,hNb,hrest,hcg,rfl⟩;have hbl:=hN.1;refine⟨_,rfl,(by show 0<=sizeLine;omega),fun E1 hE1=>?_⟩;have tE:=aH (o:=.lst []) hE1;refine⟨Lr,E1,_,rfl,rfl,SqL.of (tE Lr _ hL),SqL.of aD,_,rfl,?_⟩
  cases m with
  | zero =>
   obtain rfl:bs=[]:=bh.mp (by omega);refine tI ?_;refine⟨_,rfl,q rest _ (sG.trans tE) ⟨by omega,hrest.2⟩ ?_⟩;have e:rest*Dt.det 0 (Dt.ent N)=rest:=lx rest;rw[e] at hcg;exact hcg
  | succ m =>
   refine itP (by cases bs with | nil=>rw[jn] at hbl;omega | cons y r=>rfl) ?_;refine⟨_,fun σ' H' z=>z,?_⟩;have hL2:=tE Lr _ hL;have hN2:=hN.on tE;generalize upd G E1 (.lst [])=G2 at tE hL2 hN2;refine⟨_,rfl,Lr,rfl,⟨_,SqL.of hL2⟩,?_⟩;refine Yv (fun r=>r.getD 0 0 % (pr:Int)) (bC (SqL.of hL2)) hN2 (by omega) (fun a' r G' hrm hS s' N' hN'=>?_) fun D1 G3 hD1 s3 hd3=>?_
   ·exact⟨_,rfl,a',_,_,_,rfl,rfl,hS,bO (j:=0) (lG (by rw[hNr r hrm];omega)),_,rfl,_,_,rfl,rfl,hpos,hN' G' (aK.refl _)⟩
   have hL3:=s3 Lr _ hL2;have hN3:=hN2.on s3;have sG3:=sG.trans (tE.trans s3);refine⟨D1,_,rfl,SqL.of hd3,fun G4 s4 hall=>?_,fun p G4 s4 hp hne=>?_⟩
   ·refine⟨_,rfl,_,rfl,vD ?_⟩
    refine q 0 G4 (sG3.trans s4) ⟨Int.le_refl _,hpos⟩ ?_;have h0:=Dt.Zu (m:=pr) (M:=N) (n:=m) (fun r hrm=>Int.dvd_of_emod_eq_zero (hall _ (ao.mpr ⟨r,hrm,rfl⟩))) hNl;have h1:=(Dt.Cg.refl (m:=pr) rest).mul h0;rw[gr] at h1;exact h1.symm.trans hcg
   ·rw[aR] at hp
    obtain⟨rp,hrp⟩:∃ rp,N[p]?=some rp:=⟨_,aa hp⟩;obtain⟨bp,hbp⟩:∃ bp,bs[p]?=some bp:=⟨_,aa (by omega)⟩;have hrpm:=au hrp;have hrl:=hNr rp hrpm;have hne2:rp.getD 0 0 % (pr:Int)≠0:=by
     rw[ai,ah,hrp] at hne;exact hne
    refine⟨_,rfl,_,rfl,tI ?_⟩;have hL4:=s4 Lr _ hL3;have hN4:=hN3.on s4;have hS4:=hN4.2 p bp rp hbp hrp;refine⟨_,rfl,_,rfl,Lr,_,_,_,rfl,rfl,SqL.of hL4,bO (j:=p) (by rw[ah,hbp];rfl),bp,rfl,⟨_,hS4⟩,?_⟩;refine iJ (fun v=>match v with | .int i=>.int (i % (pr:Int)) | _=>.non) (bC hS4) (by rw[aR];omega) (fun v G' hv s' N' hN'=>?_) fun D2 G5 hD2 s5 hd5=>?_
    ·obtain⟨i,hi,rfl⟩:=ao.mp hv
     exact⟨_,rfl,_,rfl,_,_,rfl,rfl,hpos,hN' G' (aK.refl _)⟩
    have hd5:G5 D2=some (.lst ((rp.map fun i=>i % (pr:Int)).map V.int)):=by rw[hd5,bj,bj];rfl
    have htl:(rp.map fun i=>i % (pr:Int)).length=m+1:=by rw[aR,hrl]
    have htop:∀ k,k<m+1->(rp.map fun i=>i % (pr:Int)).getD k 0=rp.getD k 0 % (pr:Int):=fun k hk=>by
     rw[ai,ah,ai,aa (by omega)];rfl
    have htb:∀ y∈rp.map (fun i=>i % (pr:Int)),y.natAbs<=pr:=fun y hy=>by
     obtain⟨i,_,rfl⟩:=ao.mp hy
     have:=dk i (show (pr:Int)≠0 by omega)
     have:=cx i hpos
     omega
    have ht0:(rp.map fun i=>i % (pr:Int)).getD 0 0 % (pr:Int)≠0:=by rw[htop 0 (by omega),Int.emod_emod];exact hne2
    have htc:∀ k,k<m+1->Dt.Cg pr ((rp.map fun i=>i % (pr:Int)).getD k 0) ((N.getD p []).getD k 0):=fun k hk=>by
     rw[htop k hk,ai (l:=N),hrp];exact Dt.pO _
    generalize rp.map (fun i=>i % (pr:Int))=top at hd5 htl htop htb ht0 htc;have sG5:=sG3.trans (s4.trans s5);have hL5:=s5 Lr _ hL4;have hN5:=hN4.on s5;refine⟨_,rfl,D2,_,_,_,rfl,rfl,SqL.of hd5,bO (j:=0) (lG (by omega)),_,rfl,top.getD 0 0,pr,rfl,pm,ps,ht0,fun inv hinv hib=>?_⟩;have ht0b:=htb _ (nZ (ns:=top) (j:=0) (by omega));refine⟨_,rfl,_,rfl,D2,_,_,_,rfl,rfl,SqL.of hd5,bO (j:=0) (lG (by omega)),_,_,rfl,rfl,⟨eU (n:=pr) (by omega) h8,eU ht0b h8⟩,_,rfl,_,_,rfl,rfl,hpos,?_⟩;refine⟨_,_,pr,_,p,_,_,rfl,?_⟩;have hpl:p<=bs.length:=by omega
    have c1:dE (bs.map V.ref) none (some ((p:Nat):Int))=(bs.take p).map V.ref:=by rw[kh];exact Xx (by rw[aR];omega)
    have c2:dE (bs.map V.ref) (some ((p:Nat)+1:Int)) none=(bs.drop (p+1)).map V.ref:=by rw[kg];exact uB (k:=p+1) (by rw[aR];omega)
    refine⟨_,rfl,_,rfl,_,rfl,Lr,_,rfl,SqL.of hL5,fun p1 hp1=>?_⟩;rw[c1];have u1:=aH (o:=.lst ((bs.take p).map V.ref)) hp1;refine⟨_,rfl,_,rfl,_,_,rfl,rfl,_,rfl,Lr,_,rfl,SqL.of (u1 Lr _ hL5),fun p2 hp2=>?_⟩;rw[c2];have u2:=aH (o:=.lst ((bs.drop (p+1)).map V.ref)) hp2;refine⟨p1,p2,_,_,rfl,rfl,SqL.of (u2 p1 _ aD),SqL.of aD,(by rw[aR,aR,a6,a9];omega),fun p3 hp3=>?_⟩;rw[show (bs.take p).map V.ref++(bs.drop (p+1)).map V.ref=(bs.eraseIdx p).map V.ref by rw[<- bc,List.eraseIdx_eq_take_drop_succ]];have u3:=aH (o:=.lst ((bs.eraseIdx p).map V.ref)) hp3;have u123:=u1.trans (u2.trans u3);refine⟨p3,rfl,⟨_,SqL.of aD⟩,?_⟩;have hlok:∀ r∈N,Bp inv pr m top r:=fun r hrm=>⟨hNr r hrm,htl,by omega,by omega,ps,eU (hNb r hrm _ (nZ (by rw[hNr r hrm];omega))) (eh (j8 (fq _ (show k<=n by omega)) B) bd),by omega,htb⟩
    have hsub:∀ r∈N.eraseIdx p,r∈N:=fun r hr=>List.mem_of_mem_eraseIdx hr
    refine aAE (low inv pr top) (bC (SqL.of aD)) ((hN5.erase p).on u123) (by rw[ir];split <;> omega) (fun a' r G' hrm hS s' N' hN'=>?_) fun D4 cs G6 hD4 s6 hd6 _ hR6=>?_
    ·exact⟨_,rfl,_,rfl,_,rfl,_,rfl,a',D2,inv,pr,m,r,top,rfl,hS,SqL.of (s' D2 _ (u123 D2 _ hd5)),hlok r (hsub r hrm),fun D G'' hD s'' hd=>hN' D G'' s'' hD hd⟩
    ·have hel:=Dt.elim (m:=pr) (n:=m) (p:=p) (M:=N) (top:=top) (back:=inv) (t:=fun r=>r.getD 0 0*inv % (pr:Int)) (low:=low inv pr top) (by omega) hNl htc (by rw[gq];exact hinv) (fun r _=>Dt.pO _) fun r hrm k hk=>Il (hlok r hrm) hk
     obtain⟨r1,r2⟩:=Dt.Km hrest hinv hel hcg;refine⟨m,gj m,D4,cs,(N.eraseIdx p).map (low inv pr top),k+1,_,_,_,_,sG5.trans (u123.trans s6),hd6,hR6,by rw[aR,ir,if_pos (by omega)];omega,fun r hr=>?_,by omega,fun r hr=>?_,r1,r2,rfl⟩
     ·obtain⟨r',hr',rfl⟩:=ao.mp hr
      exact Fu (hlok r' (hsub r' hr'))
     ·obtain⟨r',hr',rfl⟩:=ao.mp hr
      rw[g8,fo,<- ux];exact Ry (hlok r' (hsub r' hr')) (hNb r' (hsub r' hr'))
structure Af (M:List (List Int))(n:Nat):Prop where
 len:M.length=n
 row:∀ r∈M,r.length=n
 sz:n<=64
 sm:∀ r∈M,Dt.rs n r<=2 ^ 110
theorem Af.part {M:List (List Int)}{n:Nat}(h:Af M n)(i:Nat):Dt.pL ((M.take i).map (Dt.rs n))<2 ^ 8000:=by
 have h1:=Dt.Rg (R:=2 ^ 110) (l:=(M.take i).map (Dt.rs n)) fun x hx=>by
  obtain⟨r,hr,rfl⟩:=ao.mp hx;exact h.sm r (qf hr)
 rw[aR,a6,<- jy] at h1
 have:=h.len
 have:=h.sz
 exact eh h1 (ly (by decide) (by omega))
def Gr (K:ae):Sp:=fun vs H Q _=>∃ (a:Addr) (as:List Addr) (M:List (List Int)) (n:Nat),vs=[.ref a]∧SqL K H a (as.map V.ref)∧dO K H as M∧Af M n∧∀ H',aK H H'->Q (.int (Dt.pL (M.map (Dt.rs n)):Nat)) H'
theorem tQ {f:Addr}{fd:FuncData}(F:Fun K "greatest_of" "greatest_of" fS f fd)(tt:Txt K mg ad):bW P w K mg base (CX1 P w) 1 f fd ["square"] (Gr K):=by
 refine F.okN fA (fun vs H Q E h=>?_) (fun cdv A outer s H vs Q E hr h=>?_)
 ·obtain⟨a,as,M,n,rfl,_⟩:=h
  rfl
 ·obtain⟨a,as,M,n,rfl,hA,hR,ok,q⟩:=h
  have hs:sizeLine=16777216:=sizeLine_eq;have hrl:=hR.1;have hlen:=ok.len;have hsz:=ok.sz;refine⟨_,(aB (aI (i:=1) fA.nd rfl (Or.inl rfl) aG)
   (aB (cM PassesOwn.never rfl (bH (pv 0)) (bK (i:=2) fA.nd rfl (Or.inl rfl)) (aE (aI (i:=1) fA.nd rfl (Or.inl rfl) (aQ eE (pv 1) (aL (Kx rfl) (by rfl) tt.b_sum ll (aA (cV oK rfl (bH (pv 2)) (fun cl C s' H' fp=>(aL Mu (by rfl) tt.b_abs PyProof.Rows.boot_abs (aA (pv 0) aC)))) aC))))))
   (aE (aV (pv 1))))),?_⟩
  (try rw[cP]);(try rw[cxK1])
  refine⟨_,rfl,a,rfl,⟨_,hA⟩,?_⟩;refine dA (K:=K) (a:=a) (xs:=as.map V.ref) (fun i σ G=>aK H G∧∃ v2:Option V,σ=[some (.ref a),some (.int (Dt.pL ((M.take i).map (Dt.rs n)):Nat)),v2]) ⟨aK.refl _,none,rfl⟩ (fun i σ G _ h=>h.1.seq hA) ?_ ?_
  ·rintro i v σ G hi ⟨sG,v2,rfl⟩
   obtain⟨a',r,rfl,hr',hS⟩:=(hR.on sG).at hi;have hrm:=au hr';have hrl2:=ok.row r hrm;refine⟨_,rfl,_,rfl,a',rfl,⟨_,hS⟩,?_⟩;refine iJ (fun v=>match v with | .int i=>.int (if i<0 then -i else i) | _=>.non) (bC hS) (by rw[aR];omega) (fun v G' hv s' N' hN'=>?_) fun D2 G5 hD2 s5 hd5=>?_
   ·obtain⟨i,hi,rfl⟩:=ao.mp hv
    exact⟨_,rfl,_,rfl,hN' G' (aK.refl _)⟩
   have hd5:G5 D2=some (.lst ((r.map fun i=>if i<0 then -i else i).map V.int)):=by rw[hd5,bj,bj];rfl
   refine⟨D2,_,rfl,SqL.of hd5,?_⟩;rw[Dt.Sw hrl2];have e:Dt.pL ((M.take (i+1)).map (Dt.rs n))=Dt.pL ((M.take i).map (Dt.rs n))*Dt.rs n r:=by rw[ca,hr',bc];exact Dt.Ha _ _
   refine⟨_,_,rfl,rfl,⟨eU (by rw[ei];exact af _) (ok.part i),eU (n:=2 ^ 110) (by rw[ei];exact ok.sm r hrm) (jQ (k:=111) (by decide +kernel) (by decide))⟩,?_⟩;refine⟨sG.trans s5,some (.ref a'),?_⟩;rw[e,fk];rfl
  ·rintro σ G ⟨sG,v2,rfl⟩
   rw[aR,cj (by omega)];exact⟨_,rfl,q G sG⟩
def kts:List Int:=[133,211,598,652,721,850,1282,1417,1582,1681,1726,1837,1885,2017,2377,2383,2452,2476,2530,2611,2662,2698,2773,2878,2917,2980,2998,3082,3238,3250,3343,3421,3427,3670,3817,4162,4252,4447,4468,4621,4630,4747,4867,4891,4915,5128,5143,5236,5401,5587,5650,5803,5833,5923,5986,6202,6235,6286,6496,6526,6736,7093,7561,7696,7831,7855,7882,7927,8143,8248]
def Gb:Sp:=fun vs H Q _=>∃ (j:Nat) (last:Int),vs=[.int (j:Nat),.int last]∧j<7∧Q (.int (kts.getD j 0)) H
theorem pJ {f:Addr}{fd:FuncData}(F:Fun K "further_times" "further_times" gD f fd)(tt:Txt K mg ad):bW P w K mg base (CX1 P w) 1 f fd ["place", "last"] Gb:=by
 refine F.okN pV (fun vs H Q E h=>?_) (fun cdv A outer s H vs Q E hr h=>?_)
 ·obtain⟨j,last,rfl,_⟩:=h
  rfl
 ·obtain⟨j,last,rfl,hj,q⟩:=h
  have hkt:SqT K H ad.KNOWN_TIMES (kts.map V.int):=SqT.tupIs tt.kt;have hkl:(kts.map V.int).length=70:=rfl;refine⟨_,(aB (bS (aP kZ (pv 0) (aL aN (by rfl) tt.b_len a0 (aA (fI (v:=.ref ad.KNOWN_TIMES) (by rfl) tt.m_KNOWN_TIMES rfl) aC)) (aW _)) (aE (aV (cL mU (fI (v:=.ref ad.KNOWN_TIMES) (by rfl) tt.m_KNOWN_TIMES rfl) (pv 0) (fun _ _=>rfl)))) aY)
   Me),?_⟩
  (try rw[cP]);(try rw[cxK1])
  refine⟨_,rfl,ad.KNOWN_TIMES,_,rfl,.inr hkt,_,_,rfl,rfl,_,rfl,?_⟩;rw[hkl];refine itP (decide_eq_true (by omega)) ?_;exact⟨_,rfl,ad.KNOWN_TIMES,_,_,_,rfl,rfl,hkt,bO (j:=j) (lG (by show j<70;omega)),q⟩
theorem Yc:∀ j,j<7->kts.getD j 0*6277101735386680763835789423207666416102355444464034512896+1=((Dt.pr j:Nat):Int):=by decide +kernel
theorem Xd:∀ j,j<7->(kts.getD j 0).natAbs<2 ^ 20:=by decide +kernel
def Vh (K:ae):Sp:=fun vs H Q _=>∃ (a:Addr) (as:List Addr) (M:List (List Int)) (n:Nat),vs=[.ref a]∧SqL K H a (as.map V.ref)∧dO K H as M∧Af M n∧2*Dt.pL (M.map (Dt.rs n))<Dt.md 7∧∀ H',aK H H'->Q (.int (Dt.det n (Dt.ent M))) H'
theorem Vl {n p:Nat}(hn:n<=64)(hp:p<2 ^ 250):2 ^ 110+n*(p*p)<2 ^ 8000:=by
 have h1:n*(p*p)<=64*(2 ^ 250*2 ^ 250):=fg hn (fg (j4 hp) (j4 hp));exact eh (j8 h1 _) (by decide +kernel)
theorem Af.rest {M:List (List Int)}{n p:Nat}(h:Af M n)(hp:Dt.dC p)(hl:p<2 ^ 250):Pb M n p (2 ^ 110) :=
 ⟨h.len,h.row,av h.sz (by decide),hp,bx hl (db (by decide) (by decide)),fun r hr x hx=>av (Dt.Wk (h.row r hr) hx) (h.sm r hr),Vl h.sz hl⟩
theorem sZ {f:Addr}{fd:FuncData}(F:Fun K "determinant" "determinant" iQ f fd)(tt:Txt K mg ad)(C_greatest_of:Cal P w K mg base (CX1 P w) "greatest_of" 1 ["square"] (Gr K))(C_determinant_rest:Cal P w K mg base (CX1 P w) "determinant_rest" 2 ["square", "prime"] (Qu K))(C_further_times:Cal P w K mg base (CX1 P w) "further_times" 1 ["place", "last"] Gb)(C_inverse:Cal P w K mg base (CX1 P w) "inverse" 1 ["number", "prime"] Dx) :
  bW P w K mg base (CX1 P w) 3 f fd ["square"] (Vh K):=by
 refine F.okN bL (fun vs H Q E h=>?_) (fun cdv A outer s H vs Q E hr h=>?_)
 ·obtain⟨a,as,M,n,rfl,_⟩:=h
  rfl
 ·obtain⟨a,as,M,n,rfl,hA,hR,ok,hlt,q⟩:=h
  have hs:sizeLine=16777216:=sizeLine_eq;have hdet:=Dt.Wr (M:=M) ok.len;have hbnd:=ok.part n;rw[cj (by rw[ok.len];exact af _)] at hbnd;generalize hB:Dt.pL (M.map (Dt.rs n))=B at hlt hdet hbnd;generalize hDD:Dt.det n (Dt.ent M)=DD at q hdet;have bB:Bg ((B:Nat):Int):=eU (by rw[ei];exact af _) hbnd;refine⟨_,(aB (aI (i:=1) bL.nd rfl (Or.inl rfl) (aJ C_greatest_of hr aS (aA (pv 0) aC)))
   (aB (aI (i:=2) bL.nd rfl (Or.inl rfl) (aJ C_determinant_rest hr aS (aA (pv 0) (aA (fI (by rfl) tt.g_FIRST_PRIME tt.r_FIRST_PRIME) aC))))
   (aB (aI (i:=3) bL.nd rfl (Or.inl rfl) (fI (by rfl) tt.g_FIRST_PRIME tt.r_FIRST_PRIME))
   (aB (aI (i:=4) bL.nd rfl (Or.inl rfl) aG)
   (aB (aI (i:=5) bL.nd rfl (Or.inl rfl) aG)
   (aB (iX PassesOwn.never (aP Yn (pv 3) (aQ eE aG (pv 1)) (aW _)) (aB (aI (i:=5) bL.nd rfl (Or.inl rfl) (aJ C_further_times hr aS (aA (pv 4) (aA (pv 5) aC))))
   (aB (aI (i:=4) bL.nd rfl (Or.inl rfl) (aQ dJ (pv 4) aG))
   (aB (aI (i:=6) bL.nd rfl (Or.inl rfl) (aQ dJ (aQ eE (pv 5) (fI (by rfl) tt.g_STEP tt.r_STEP)) aG))
   (aB (aI (i:=7) bL.nd rfl (Or.inl rfl) (aQ eR (aJ C_determinant_rest hr aS (aA (pv 0) (aA (pv 6) aC))) (pv 2)))
   (aB (aI (i:=2) bL.nd rfl (Or.inl rfl) (aQ dJ (pv 2) (aQ eE (aQ cT (aQ eE (pv 7) (aJ C_inverse hr aS (aA (pv 3) (aA (pv 6) aC)))) (pv 6)) (pv 3))))
   (aE (aI (i:=3) bL.nd rfl (Or.inl rfl) (aQ eE (pv 3) (pv 6))))))))))
   (aB (bS (aP lY (pv 2) (pv 1) (aW _)) (aE (aV (aQ eR (pv 2) (pv 3)))) aY)
   (aE (aV (pv 2)))))))))),?_⟩
  (try rw[cP]);(try rw[cxK1])
  refine⟨_,rfl,a,as,M,n,rfl,hA,hR,ok,fun G1 s1=>?_⟩;rw[hB];refine⟨_,rfl,a,as,M,n,2305843009213693951,2 ^ 110,rfl,s1.seq hA,hR.on s1,ok.rest Dt.aAf (by decide +kernel),fun res G2 s2 hres hcg=>?_⟩;rw[hDD] at hcg;refine⟨fun m σ G=>∃ (j:Nat) (res times:Int) (v6 v7:Option V),m=7-j∧j<=7∧aK H G∧(0<=res∧res<(Dt.md j:Nat))∧Dt.Cg (Dt.md j:Nat) res DD∧σ=[some (.ref a),some (.int (B:Nat)),some (.int res),some (.int (Dt.md j:Nat)),some (.int (j:Nat)),some (.int times),v6,v7],
   ⟨_,0,res,0,none,none,rfl,by omega,s1.trans s2,hres,hcg,rfl⟩,?_⟩
  rintro m σ G ⟨j,res,times,v6,v7,rfl,hj,sG,hres,hcg,rfl⟩;refine⟨_,rfl,_,rfl,_,_,rfl,rfl,⟨eU (n:=2) (by decide) (by decide +kernel),bB⟩,_,_,rfl,rfl,_,rfl,?_⟩;by_cases hle:Dt.md j<=2*B
  ·refine itP (decide_eq_true (by omega)) ?_
   have hj7:j<7:=by
    rcases gt j 7 with z | z
    ·exact z
    ·rw[show j=7 by omega] at hle
     omega
   obtain⟨k1,k2,k3,k4⟩:=Dt.Zd j hj7;have ePr:=Yc j hj7;have hpp:=Dt.Od hj7;have hp1:=hpp.1;have l1:=jQ k1 (by decide);have l3:=jQ k3 (by decide);have l4:=jQ k4 (by decide);have bP:Bg ((Dt.pr j:Nat):Int):=eU (by rw[ei];exact af _) l1;have bM:Bg ((Dt.md j:Nat):Int):=eU (by rw[ei];exact af _) l3;refine⟨_,fun σ' H' z=>z,?_⟩;refine⟨_,rfl,_,rfl,j,times,rfl,hj7,?_⟩;refine⟨_,rfl,_,_,rfl,rfl,?_⟩;refine⟨_,rfl,_,_,rfl,rfl,⟨eU (j4 (Xd j hj7)) (jQ (k:=21) (by decide +kernel) (by decide)),eU (n:=2 ^ 200) (by decide +kernel) (jQ (k:=201) (by decide +kernel) (by decide))⟩,_,_,rfl,rfl,?_⟩;refine⟨_,rfl,_,rfl,a,as,M,n,Dt.pr j,2 ^ 110,congrArg (fun z=>[V.ref a,V.int z]) ePr,sG.seq hA,hR.on sG,ok.rest hpp k1,fun r2 G3 s3 hr2 hc2=>?_⟩;rw[hDD] at hc2;refine⟨_,rfl,_,_,rfl,rfl,?_⟩;refine⟨_,rfl,_,rfl,_,rfl,_,rfl,((Dt.md j:Nat):Int),Dt.pr j,congrArg (fun z=>[V.int ((Dt.md j:Nat):Int),V.int z]) ePr,hpp,bx k1 (db (by decide) (by decide)),(fun z=>k2 (by exact_mod_cast z)),fun inv hi hib=>?_⟩;have q1:=dk ((r2-res)*inv) (show ((Dt.pr j:Nat):Int)≠0 by omega);have q2:=cx ((r2-res)*inv) (show (0:Int)<((Dt.pr j:Nat):Int) by omega);obtain⟨c1,c2,c3⟩:=Dt.crt (M1:=Dt.md j) (pr:=Dt.pr j) (D:=DD) (res:=res) (r2:=r2) (inv:=inv) (by omega) (by omega) hcg hc2 hi hres;refine⟨_,_,rfl,rfl,⟨eU (n:=Dt.md j+Dt.pr j) (by omega) (bx (Nat.add_lt_add k3 k1) (by decide +kernel)),eU (n:=Dt.pr j) (by omega) l1⟩,_,rfl,_,_,rfl,rfl,(by show (0:Int)<_;rw[ePr];omega),_,rfl,_,_,rfl,rfl,⟨?_,bM⟩,_,_,rfl,rfl,?_⟩
   ·show Bg ((r2-res)*inv % _)
    rw[ePr];exact eU (n:=Dt.pr j) (by omega) l1
   refine⟨_,rfl,_,rfl,_,_,rfl,rfl,⟨bM,by rw[ePr];exact bP⟩,?_⟩;refine⟨7-(j+1),by omega,j+1,res+(r2-res)*inv % (Dt.pr j:Nat)*(Dt.md j:Nat),kts.getD j 0,some (.int (kts.getD j 0*6277101735386680763835789423207666416102355444464034512896+1)),some (.int (r2-res)),rfl,by omega,sG.trans s3,⟨c2,c3⟩,c1,?_⟩;rw[<- ePr,show ((Dt.md (j+1):Nat):Int)=(Dt.md j:Nat)*(kts.getD j 0*6277101735386680763835789423207666416102355444464034512896+1) by rw[ePr];exact fk ..];rfl
  ·refine itN (fun z=>hle (by have:=of_decide_eq_true z;omega)) ?_
   have hfr:=Dt.Jq (M:=Dt.md j) (D:=DD) (res:=res) (bd:=(B:Nat)) (by omega) (by omega) hcg hres;refine⟨_,rfl,_,rfl,_,_,rfl,rfl,_,rfl,?_⟩;by_cases hgt:((B:Nat):Int)<res
   ·rw[if_pos hgt] at hfr
    refine itP (decide_eq_true hgt) ?_;refine⟨_,rfl,_,rfl,_,_,rfl,rfl,?_⟩;rw[<- hfr] at q;exact q G sG
   ·rw[if_neg hgt] at hfr
    refine itN (fun z=>hgt (of_decide_eq_true z)) ?_;rw[<- hfr] at q;exact⟨_,rfl,q G sG⟩
def uY (words:List (List Nat))(o:List Nat):Int:=((words.countP fun w=>decide (w.drop 1=o):Nat):Int)
def vS (texts:List (List Nat))(t:List Nat)(words:List (List Nat)):List Int:=texts.map fun o=>if o=t then ((words.length:Nat):Int)-uY words t else-uY words o
theorem Hb {words:List (List Nat)}{o:List Nat}:((((words.map fun w=>w.drop 1).map T).countP fun y=>eqV y (T o):Nat):Int)=uY words o:=by
 unfold uY;rw[bj,List.countP_map]
 congr 2
 funext w
 show (tx (w.drop 1)==tx o)=decide (w.drop 1=o);rw[c9,beq_iff_eq,decide_eq_true_iff];exact⟨fun h=>eX h,fun h=>by rw[h]⟩
def Ra (K:ae):Sp:=fun vs H Q _=>∃ (a b:Addr) (texts words:List (List Nat)) (t:List Nat),vs=[.ref a,T t,.ref b]∧SqL K H a (texts.map T)∧SqL K H b (words.map T)∧(texts.length<=200∧words.length<=200∧∀ x∈words,1<=x.length∧x.length<=1000)∧∀ D H',H D=none->aK H H'->H' D=some (.lst ((vS texts t words).map V.int))->Q (.ref D) H'
theorem vR {f:Addr}{fd:FuncData}(F:Fun K "choice_row" "choice_row" eW f fd)(tt:Txt K mg ad)(C_end_of:Cal P w K mg base (CX1 P w) "end_of" 1 ["word"] nM):bW P w K mg base (CX1 P w) 2 f fd ["texts", "text", "words"] (Ra K):=by
 refine F.okN mE (fun vs H Q E h=>?_) (fun cdv A outer s H vs Q E hr h=>?_)
 ·obtain⟨a,b,texts,words,t,rfl,_⟩:=h
  rfl
 ·obtain⟨a,b,texts,words,t,rfl,hA,hB,⟨h1,h2,h3⟩,q⟩:=h
  have hs:sizeLine=16777216:=sizeLine_eq;refine⟨_,(aB (aI (i:=3) mE.nd rfl (Or.inr rfl) (cV qU rfl (bH (pv 2)) (fun cl C s' H' fp=>(aJ C_end_of hr aS (aA (pv 0) aC)))))
   (aE (aV (cV qV rfl (bH (pv 0)) (fun cl C s' H' fp=>(Ch (aP mZ (pv 0) (pv 2) (aW _)) (aQ eR (aL (Ei K rfl) (by rfl) tt.b_len a0 (aA (pv 4) aC)) (Eb K rfl dv ko oh (xM K rfl) (pv 4) (aA (pv 2) aC))) (mF iO (Eb K rfl dv ko oh (xM K rfl) (pv 4) (aA (pv 0) aC))))))))),?_⟩
  (try rw[cP]);(try rw[cxK1])
  refine⟨_,rfl,b,rfl,⟨_,hB⟩,?_⟩;refine iJ (fun v=>T ((unT v).drop 1)) (bC hB) (by rw[aR];omega) (fun v G hv sg N hN=>?_) fun D1 G1 hD1 s1 hd1=>?_
  ·obtain⟨l,hl,rfl⟩:=ao.mp hv
   have z:=hN G (aK.refl _);rw[cS] at z;have hx:=h3 l hl;exact⟨_,rfl,l,rfl,⟨by omega,by omega⟩,z⟩
  have hd1:G1 D1=some (.lst ((words.map fun w=>w.drop 1).map T)):=by
   rw[hd1,bj,bj];refine congrArg (fun l=>some (HO.lst l)) (ay fun m _=>?_);show T ((unT (T m)).drop 1)=T (m.drop 1);rw[cS]
  refine⟨_,rfl,a,rfl,⟨_,s1.seq hA⟩,?_⟩;refine iJ (fun v=>.int (if unT v=t then ((words.length:Nat):Int)-uY words t else-uY words (unT v))) (bC (s1.seq hA)) (by rw[aR];omega) (fun v G hv sg N hN=>?_) fun D2 G2 hD2 s2 hd2=>?_
  ·obtain⟨o,ho,rfl⟩:=ao.mp hv
   have z:=hN G (aK.refl _);rw[cS] at z;have hdG:=sg D1 _ hd1;refine⟨_,rfl,_,rfl,_,rfl,_,rfl,_,rfl,?_⟩;by_cases hot:o=t
   ·rw[if_pos hot] at z
    refine itP (decide_eq_true hot) ?_;refine⟨_,rfl,D1,_,rfl,.inl (SqL.of hdG),_,rfl,.inl ⟨rfl,_,SqL.of hdG⟩,_,rfl,D1,_,_,rfl,rfl,SqL.of hdG,hU _,rfl,_,_,rfl,rfl,?_⟩;rw[Hb,aR,aR];exact z
   ·rw[if_neg hot] at z
    refine itN (fun y=>hot (of_decide_eq_true y)) ?_;refine⟨_,rfl,.inl ⟨rfl,_,SqL.of hdG⟩,_,rfl,D1,_,_,rfl,rfl,SqL.of hdG,hU _,rfl,_,rfl,?_⟩;rw[Hb];exact z
  have hD0:H D2=none:=by
   cases e:H D2 with
   | none=>rfl
   | some o=>have:=s1 D2 o e;rw[hD2] at this;cases this
  refine q D2 G2 hD0 (s1.trans s2) ?_;rw[hd2];unfold vS;rw[bj,bj];refine congrArg (fun l=>some (HO.lst l)) (ay fun m _=>?_);show V.int (if unT (T m)=t then _ else _)=V.int (if m=t then _ else _);rw[cS]
inductive bI (H:Hp)(g:List Nat->List (List Nat)):List (List Nat)->List (Key×V)->Prop
 | nil:bI H g [] []
 | cons {o:List Nat} {a:Addr} {ls:List (List Nat)} {kvs:List (Key×V)}:H a=some (.lst ((g o).map T))->bI H g ls kvs->bI H g (o::ls) ((b9 (tx o),.ref a)::kvs)
theorem bI.keys {H:Hp}{g:List Nat->List (List Nat)}{ls:List (List Nat)}{kvs:List (Key×V)}(h:bI H g ls kvs):kvs.map (·.1)=ls.map fun t=>b9 (tx t):=by
 induction h with
 | nil=>rfl
 | cons _ _ ih=>rw[ap,ap,ih]
theorem bI.len {H:Hp}{g:List Nat->List (List Nat)}{ls:List (List Nat)}{kvs:List (Key×V)}(h:bI H g ls kvs):kvs.length=ls.length:=by
 have:=congrArg gi h.keys
 rwa [aR,aR] at this
theorem bI.mono {H H':Hp}{g:List Nat->List (List Nat)}{ls:List (List Nat)}{kvs:List (Key×V)}(s:aK H H')(h:bI H g ls kvs):bI H' g ls kvs:=by
 induction h with
 | nil=>exact .nil
 | cons e _ ih=>exact .cons (s _ _ e) ih
theorem bI.updD {H:Hp}{g:List Nat->List (List Nat)}{ls:List (List Nat)}{kvs k:List (Key×V)}{D:Addr}{o:HO}(hd:H D=some (.dK k))(h:bI H g ls kvs):bI (upd H D o) g ls kvs:=by
 induction h with
 | nil=>exact .nil
 | @cons _ a _ _ e _ ih =>
  have hne:a≠D:=fun z=>by rw[z,hd] at e;cases e
  exact .cons (by rw[aM hne];exact e) ih
theorem bI.snoc {H:Hp}{g:List Nat->List (List Nat)}{ls:List (List Nat)}{kvs:List (Key×V)}{o:List Nat}{a:Addr}(h:bI H g ls kvs)(e:H a=some (.lst ((g o).map T))):bI H g (ls++[o]) (kvs++[(b9 (tx o),.ref a)]):=by
 induction h with
 | nil=>exact .cons e .nil
 | cons e1 _ ih=>exact .cons e1 ih
theorem bI.get {H:Hp}{g:List Nat->List (List Nat)}{ls:List (List Nat)}{kvs:List (Key×V)}{o:List Nat}(h:bI H g ls kvs)(ho:o∈ls):∃ a,eC kvs (b9 (tx o))=some (.ref a)∧H a=some (.lst ((g o).map T)):=by
 induction h with
 | nil=>cases ho
 | @cons o' a _ _ e _ ih =>
  by_cases hoo:o'=o
  ·subst hoo
   exact⟨a,fX rfl,e⟩
  ·obtain⟨b,h1,h2⟩:=ih ((ar.mp ho).resolve_left (Ne.symm hoo))
   exact⟨b,by rw[fF (fun z=>hoo (eX (il z)))];exact h1,h2⟩
theorem gC {H G:Hp}{D:Addr}(s:aK H G)(h:G D=none):H D=none:=by
 cases e:H D with
 | none=>rfl
 | some o=>exact absurd ((s D o e).symm.trans h) (fun z=>nomatch z)
def jY (ls:List (List Nat))(g:List Nat->List (List Nat)):List (List Int):=ls.map fun t=>vS ls t (g t)
def xK (K:ae):Sp:=fun vs H Q _=>∃ (a:Addr) (ls:List (List Nat)) (kvs:List (Key×V)) (g:List Nat->List (List Nat)),vs=[.ref a]∧H a=some (.dK kvs)∧bI H g ls kvs∧(ls.length<=64∧∀ o∈ls,(g o).length<=200∧∀ x∈g o,1<=x.length∧x.length<=1000) ∧
 Af (jY ls g) ls.length∧2*Dt.pL ((jY ls g).map (Dt.rs ls.length))<Dt.md 7∧∀ H',aK H H'->Q (.int (Dt.det ls.length (Dt.ent (jY ls g)))) H'
theorem mT {f:Addr}{fd:FuncData}(F:Fun K "choices_counted" "choices_counted" dZ f fd)(tt:Txt K mg ad)(C_determinant:Cal P w K mg base (CX1 P w) "determinant" 3 ["square"] (Vh K))(C_choice_row:Cal P w K mg base (CX1 P w) "choice_row" 2 ["texts", "text", "words"] (Ra K)) :
  bW P w K mg base (CX1 P w) 4 f fd ["ways"] (xK K):=by
 refine F.okN iA (fun vs H Q E h=>?_) (fun cdv A outer s H vs Q E hr h=>?_)
 ·obtain⟨a,ls,kvs,g,rfl,_⟩:=h
  rfl
 ·obtain⟨a,ls,kvs,g,rfl,hd,hwa,⟨h64,hg⟩,hsq,hpl,q⟩:=h
  have hs:sizeLine=16777216:=sizeLine_eq;refine⟨_,(aB (aI (i:=1) iA.nd rfl (Or.inr rfl) (dU (Fa rfl) (by rfl) tt.b_list (by decide +kernel) (aA (pv 0) aC)))
   (aE (aV (aJ C_determinant hr aS (aA (cV kS rfl (bH (pv 1)) (fun cl C s' H' fp=>(aJ C_choice_row hr aS (aA (pv 2) (aA (pv 0) (aA (lF (fW hr) (pv 1) (pv 0) (fun _ _=>rfl)) aC)))))) aC))))),?_⟩
  (try rw[cP]);(try rw[cxK1])
  refine⟨_,rfl,a,ls,kvs,rfl,hd,hwa.keys,fun D1 hD1=>?_⟩;have s1:=aH (o:=.lst (ls.map T)) hD1;refine⟨_,rfl,D1,rfl,⟨_,SqL.of aD⟩,?_⟩;refine Xi (K:=K) (fun v=>vS ls (unT v) (g (unT v))) (bC (SqL.of aD)) (by rw[aR];omega) (fun v G hv sg N hN=>?_) fun D2 bs G2 hD2 s2 hd2 hne2 hR2=>?_
  ·obtain⟨t,ht,rfl⟩:=ao.mp hv
   rw[cS] at hN;obtain⟨b,hb1,hb2⟩:=((hwa.mono s1).mono sg).get ht;have hget:lS G a (T t) (some (.ref b)):=by rw[<- hb1];exact lS.k (k:=b9 (tx t)) (sg a _ (s1 a _ hd))
   have hgt:=hg t ht;exact⟨_,rfl,_,rfl,_,rfl,_,rfl,a,_,rfl,hget,D1,b,ls,g t,t,rfl,SqL.of (sg D1 _ aD),SqL.of hb2,⟨by omega,hgt.1,hgt.2⟩,fun D H' hD s' hd'=>hN D H' s' hD hd'⟩
  rw[show (ls.map T).map (fun v=>vS ls (unT v) (g (unT v)))=jY ls g from by
   unfold jY;rw[bj];refine ay fun m _=>?_
   show vS ls (unT (T m)) (g (unT (T m)))=_;rw[cS]] at hR2
  exact⟨D2,bs,jY ls g,ls.length,rfl,SqL.of hd2,hR2,hsq,hpl,fun H' s'=>q H' ((s1.trans s2).trans s')⟩
def Kp (D:Addr)(H H':Hp):Prop:=∀ b o,b≠D->H b=some o->H' b=some o
theorem wO {H:Hp}{g:List Nat->List (List Nat)}{ls:List (List Nat)}{kvs:List (Key×V)}(h:bI H g ls kvs){o:List Nat}(ho:o∉ls):eC kvs (b9 (tx o))=none:=by
 induction h with
 | nil=>rfl
 | @cons o' a _ _ e _ ih =>
  rw[fF (fun z=>ho (by rw[eX (il z)];exact al ..))];exact ih fun z=>ho (aj _ z)
theorem bI.cong {H:Hp}{g g':List Nat->List (List Nat)}{ls:List (List Nat)}{kvs:List (Key×V)}(h:bI H g ls kvs)(e:∀ t∈ls,g t=g' t):bI H g' ls kvs:=by
 induction h with
 | nil=>exact .nil
 | @cons o a _ _ e1 _ ih=>exact .cons (by rw[<- e o (al ..)];exact e1) (ih fun t ht=>e t (aj _ ht))
theorem Hr {words:List (List Nat)}{o:List Nat}:(uY words o).natAbs<=words.length:=by
 unfold uY
 have:=List.countP_le_length (p:=fun w=>decide (w.drop 1=o)) (l:=words)
 omega
theorem Ln {texts words:List (List Nat)}{t:List Nat}{x:Int}(hx:x∈vS texts t words):x.natAbs<=words.length:=by
 obtain⟨o,_,rfl⟩:=ao.mp hx;have h1:=Hr (words:=words) (o:=t);have h2:=Hr (words:=words) (o:=o);have h3:0<=uY words t:=Int.natCast_nonneg _;show (if o=t then ((words.length:Nat):Int)-uY words t else-uY words o).natAbs<=_;split <;> omega
theorem Lq {f:Nat->Nat}{c:Nat}:∀ {n:Nat},(∀ j,j<n->f j<=c)->Dt.sN n f<=n*c:=fun {n} h=>by
 have h1:Dt.sN n f<=Dt.sN n fun _=>1*c:=Dt.Qw fun j hj=>by rw[fo];exact h j hj
 have h2:∀ n:Nat,Dt.sN n (fun _=>1)=n:=fun n=>by
  induction n with
  | zero=>rfl
  | succ n ih=>show Dt.sN n (fun _=>1)+1=n+1;rw[ih]
 rw[Dt.Dn,h2] at h1;exact h1
theorem Qy {ls:List (List Nat)}{g:List Nat->List (List Nat)}(h64:ls.length<=64)(hg:∀ o∈ls,(g o).length<=64):Af (jY ls g) ls.length∧2*Dt.pL ((jY ls g).map (Dt.rs ls.length))<Dt.md 7:=by
 have hrow:∀ r∈jY ls g,Dt.rs ls.length r<=4096:=fun r hr=>by
  obtain⟨t,ht,rfl⟩:=ao.mp hr;have h1:Dt.rs ls.length (vS ls t (g t))<=ls.length*64:=Lq fun j hj=>by
   have hl:j<(vS ls t (g t)).length:=by unfold vS;rw[aR];exact hj
   rw[ai,aa hl];exact av (Ln (cy hl)) (hg t ht)
  omega
 have hlen:(jY ls g).length=ls.length:=aR ..;refine⟨⟨hlen,fun r hr=>?_,h64,fun r hr=>av (hrow r hr) (by decide)⟩,?_⟩
 ·obtain⟨t,_,rfl⟩:=ao.mp hr
  exact aR ..
 ·have h1:=Dt.Rg (R:=4096) (l:=(jY ls g).map (Dt.rs ls.length)) fun x hx=>by
   obtain⟨r,hr,rfl⟩:=ao.mp hx;exact hrow r hr
  rw[aR,hlen] at h1;have h2:4096 ^ ls.length<=4096 ^ 64:=db (by decide) h64;have h3:2*4096 ^ 64<Dt.md 7:=by decide +kernel
  exact eh (i7 2 (av h1 h2)) h3
theorem Xy {ts:List (List Nat)}(nd:ts.Nodup)(g:List Nat->List (List Nat)):Dt.det ts.length (Dt.ent (jY ts g))=((Dt.nC ts g:Nat):Int):=Dt.Wt nd g
def Mo (K:ae):Sp:=fun vs H Q _=>∃ (a:Addr) (ms:List (List Nat)) (one other:List Nat),vs=[.ref a,T one,T other]∧SqA K H a (ms.map T)∧(ms.length<=60∧∀ x∈ms,1<=x.length∧x.length<=1000)∧∀ (b:Bool) (H':Hp),aK H H'->(b=true↔Wd.Bal ms one other)->Q (.bl b) H'
theorem Et {f:Addr}{fd:FuncData}(F:Fun K "is_even" "is_even" jC f fd)(tt:Txt K mg ad)(C_begin_of:Cal P w K mg base (CX1 P w) "begin_of" 1 ["word"] gJ)(C_end_of:Cal P w K mg base (CX1 P w) "end_of" 1 ["word"] nM):bW P w K mg base (CX1 P w) 2 f fd ["words", "one", "other"] (Mo K):=by
 refine F.okN mQ (fun vs H Q E h=>?_) (fun cdv A outer s H vs Q E hr h=>?_)
 ·obtain⟨a,ms,one,other,rfl,_⟩:=h
  rfl
 ·obtain⟨a,ms,one,other,rfl,hS,⟨hl,hx⟩,q⟩:=h
  have hs:sizeLine=16777216:=sizeLine_eq;have hu:=ld (fW hr);refine⟨_,(aB (aI (i:=3) mQ.nd rfl (Or.inl rfl) (aQ iB (cV zI rfl (yT K rfl (pv 0)) (fun cl C s' H' fp=>(aJ C_begin_of hr aS (aA (pv 0) aC)))) (cJ (aA (pv 2) aC))))
   (aB (aI (i:=4) mQ.nd rfl (Or.inl rfl) (aQ iB (cV yN rfl (yT K rfl (pv 0)) (fun cl C s' H' fp=>(aJ C_end_of hr aS (aA (pv 0) aC)))) (cJ (aA (pv 1) aC))))
   (aE (aV (Gm (Lz hu) (aL gH (by rfl) tt.b_sorted di (aA (pv 3) aC)) (aL gH (by rfl) tt.b_sorted di (aA (pv 4) aC)) (aW _)))))),?_⟩
  (try rw[cP]);(try rw[cxK1])
  refine⟨_,rfl,a,ms.map T,_,rfl,hS,aK.refl _,fun J rd=>?_⟩;refine iJ (fun v=>T (beg (unT v))) rd (by rw[aR];omega) (fun v G hv sg N hN=>?_) fun D1 H1 hD1 s1 hd1=>?_
  ·obtain⟨l,hl,rfl⟩:=ao.mp hv
   have z:=hN G (aK.refl _);rw[cS] at z;have hx:=hx l hl;exact⟨_,rfl,l,rfl,⟨by omega,by omega⟩,z⟩
  rw[fU (f:=fun l=>T (beg l)),show ms.map (fun l=>T (beg l))=(ms.map beg).map T by rw[bj];rfl] at hd1;refine⟨_,rfl,(by show 1<=sizeLine;omega),fun e1 he1=>?_⟩;have t1:=aH (o:=.lst [T other]) he1;refine⟨D1,e1,_,_,rfl,rfl,SqL.of (t1 D1 _ hd1),SqL.of aD,(by rw[aR,aR];show _+1<=sizeLine;omega),fun D2 hD2=>?_⟩;have t2:=s1.trans (t1.trans (aH (o:=.lst ((ms.map beg).map T++[T other])) hD2));have hd2:upd (upd H1 e1 (.lst [T other])) D2 (.lst ((ms.map beg).map T++[T other])) D2=some (.lst ((ms.map beg++[other]).map T)):=by rw[aD,bc];rfl
  generalize upd (upd H1 e1 (.lst [T other])) D2 (.lst ((ms.map beg).map T++[T other]))=H2 at t2 hd2;refine⟨_,rfl,a,ms.map T,_,rfl,hS.on t2,aK.refl _,fun J rd=>?_⟩;refine iJ (fun v=>T ((unT v).drop 1)) rd (by rw[aR];omega) (fun v G hv sg N hN=>?_) fun D3 H3 hD3 s3 hd3=>?_
  ·obtain⟨l,hl,rfl⟩:=ao.mp hv
   have z:=hN G (aK.refl _);rw[cS] at z;have hx:=hx l hl;exact⟨_,rfl,l,rfl,⟨by omega,by omega⟩,z⟩
  rw[fU (f:=fun l=>T (l.drop 1)),show ms.map (fun l=>T (l.drop 1))=(ms.map fun l=>l.drop 1).map T by rw[bj];rfl] at hd3;refine⟨_,rfl,(by show 1<=sizeLine;omega),fun e2 he2=>?_⟩;have t3:=aH (o:=.lst [T one]) he2;refine⟨D3,e2,_,_,rfl,rfl,SqL.of (t3 D3 _ hd3),SqL.of aD,(by rw[aR,aR];show _+1<=sizeLine;omega),fun D4 hD4=>?_⟩;have t4:=s3.trans (t3.trans (aH (o:=.lst ((ms.map fun l=>l.drop 1).map T++[T one])) hD4));have hd4:upd (upd H3 e2 (.lst [T one])) D4 (.lst ((ms.map fun l=>l.drop 1).map T++[T one])) D4=some (.lst (((ms.map fun l=>l.drop 1)++[one]).map T)):=by rw[aD,bc];rfl
  generalize upd (upd H3 e2 (.lst [T one])) D4 (.lst ((ms.map fun l=>l.drop 1).map T++[T one]))=H4 at t4 hd4;refine⟨_,rfl,D2,ms.map beg++[other],rfl,SqL.of (t4 D2 _ hd2),(by rw[ak,aR];show _+1<64;omega),fun so1 E1 hE1 hp1 hw1=>?_⟩;have t5:=aH (o:=.lst (so1.map T)) hE1;refine⟨_,rfl,D4,(ms.map fun l=>l.drop 1)++[one],rfl,SqL.of (t5 D4 _ hd4),(by rw[ak,aR];show _+1<64;omega),fun so2 E2 hE2 hp2 hw2=>?_⟩;have t6:=aH (o:=.lst (so2.map T)) hE2;refine⟨E1,E2,so1,so2,rfl,rfl,SqL.of (t6 E1 _ aD),SqL.of aD,?_⟩;refine q _ _ (t2.trans (t4.trans (t5.trans t6))) ?_;rw[decide_eq_true_iff,<- Dt.Tj];constructor
  ·intro e
   subst e;exact hp1.symm.trans hp2
  ·intro h
   exact Wd.dI (hp1.trans (pb h hp2.symm)) hw1 hw2
theorem bI.app {G:Hp}{g:List Nat->List (List Nat)}{ts:List (List Nat)}{kvs:List (Key×V)}{t x:List Nat}{b:Addr}(h:bI G g ts kvs):ts.Nodup->(kvs.map (·.2)).Nodup->t∈ts->eC kvs (b9 (tx t))=some (.ref b)->bI (upd G b (.lst ((g t++[x]).map T))) (fun u=>if u=t then g t++[x] else g u) ts kvs:=by
 have vm:∀ {kvs:List (Key×V)} {k:Key} {v:V},eC kvs k=some v->v∈kvs.map (·.2):=fun {kvs k v}=>by
  induction kvs with
  | nil=>intro e;cases e
  | cons kv kvs ih =>
   intro e;obtain⟨k',v'⟩:=kv;by_cases hk:k'=k
   ·rw[fX hk] at e
    cases e;exact al ..
   ·rw[fF hk] at e
    exact aj _ (ih e)
 have no:∀ {ts:List (List Nat)} {kvs:List (Key×V)},bI G g ts kvs->t∉ts->V.ref b∉kvs.map (·.2)->bI (upd G b (.lst ((g t++[x]).map T))) (fun u=>if u=t then g t++[x] else g u) ts kvs:=fun {ts kvs} h=>by
  induction h with
  | nil=>intro _ _;exact .nil
  | @cons o a _ _ e _ ih =>
   intro h1 h2;have hne:o≠t:=fun z=>h1 (z▸al ..)
   have hab:a≠b:=fun z=>h2 (z▸al ..)
   exact .cons (by rw[aM hab,if_neg hne];exact e) (ih (fun z=>h1 (aj _ z)) fun z=>h2 (aj _ z))
 induction h with
 | nil=>intro _ _ h;cases h
 | @cons o a _ _ e hr ih =>
  intro nd nv ht hv;rw[bv] at nd;rw[ap,bv] at nv;by_cases hot:o=t
  ·subst hot
   rw[fX rfl] at hv;cases hv;exact .cons (by rw[aD,if_pos rfl]) (no hr nd.1 nv.1)
  ·rw[fF (fun z=>hot (eX (il z)))] at hv
   have hab:a≠b:=fun z=>nv.1 (z▸vm hv)
   exact .cons (by rw[aM hab,if_neg hot];exact e) (ih nd.2 nv.2 ((ar.mp ht).resolve_left (Ne.symm hot)) hv)
theorem Ho {us:List (List Nat)}{x t:List Nat}:Dt.og (us++[x]) t=if t=beg x then Dt.og us t++[x] else Dt.og us t:=by
 unfold Dt.og;rw[gl];by_cases h:t=beg x
 ·rw[if_pos h,dt (p:=fun w=>decide (Wd.beg w=t)) (decide_eq_true h.symm),jp]
 ·rw[if_neg h,dj (p:=fun w=>decide (Wd.beg w=t)) (fun z=>h (of_decide_eq_true z).symm),jp,df]
def Pe (K:ae):Sp:=fun vs H Q _=>∃ (a:Addr) (ms:List (List Nat)),vs=[.ref a]∧SqA K H a (ms.map T)∧(ms.length<=1000∧∀ x∈ms,1<=x.length∧x.length<=1000)∧∀ (D:Addr) (kvs:List (Key×V)) (ts:List (List Nat)) (H':Hp),H D=none->aK H H'->H' D=some (.dK kvs)->bI H' (Dt.og ms) ts kvs->ts.Nodup->(∀ t,t∈ts↔∃ x∈ms,beg x=t)->Q (.ref D) H'
theorem Cq {f:Addr}{fd:FuncData}(F:Fun K "by_begin" "by_begin" mJ f fd)(tt:Txt K mg ad)(C_begin_of:Cal P w K mg base (CX1 P w) "begin_of" 1 ["word"] gJ):bW P w K mg base (CX1 P w) 2 f fd ["words"] (Pe K):=by
 refine F.okN kT (fun vs H Q E h=>?_) (fun cdv A outer s H vs Q E hr h=>?_)
 ·obtain⟨a,ms,rfl,_⟩:=h
  rfl
 ·obtain⟨a,ms,rfl,hS,⟨hl,hx⟩,q⟩:=h
  have hs:sizeLine=16777216:=sizeLine_eq;refine⟨_,(aB (aI (i:=1) kT.nd rfl (Or.inl rfl) Ag)
   (aB (cM PassesOwn.never rfl (yT K rfl (pv 0)) (bK (i:=2) kT.nd rfl (Or.inl rfl)) (aE (fB (qC dv iz i0 gN (Dj (pv 1) (aJ C_begin_of hr aS (aA (pv 2) aC)) (cJ aC) ⟨rfl,rfl,rfl,rfl⟩) (aA (pv 2) aC)))))
   (aE (aV (pv 1))))),?_⟩
  (try rw[cP]);(try rw[cxK1])
  refine fun D hD=>?_
  have sD:=aH (o:=.dK []) hD;refine⟨_,rfl,a,ms.map T,_,rfl,hS,sD,fun J rd=>?_⟩;refine Jd rd (fun i σ G=>aK H G∧∃ (kvs:List (Key×V)) (ts:List (List Nat)) (v2:Option V),G D=some (.dK kvs)∧bI G (Dt.og (ms.take i)) ts kvs∧ts.Nodup∧(kvs.map (·.2)).Nodup∧(∀ b,V.ref b∈kvs.map (·.2)->H b=none)∧ts.length<=i∧(∀ t,t∈ts↔∃ x∈ms.take i,beg x=t)∧σ=[some (.ref a),some (.ref D),v2])
   ⟨sD,[],[],none,aD,.nil,gu,gu,fun b h=>(nomatch h),af _,fun t=>⟨fun h=>(nomatch h),fun ⟨x,h,_⟩=>by rw[jc] at h;cases h⟩,rfl⟩ (fun i σ G _ h=>h.1) ?_ ?_
  ·rintro i y σ G hi ⟨sG,kvs,ts,v2,hd,hwa,nd,nv,hf,hlt,hm,rfl⟩
   obtain⟨x,hxi,rfl⟩:∃ x,ms[i]?=some x∧T x=y:=by rw[ah] at hi;exact ba.mp hi
   have hil:=(aw.mp hxi).1;have hxx:=hx x (au hxi);have htk:ms.take (i+1)=ms.take i++[x]:=by rw[ca,hxi];rfl
   have hm2:∀ t,(∃ y∈ms.take (i+1),beg y=t)↔(∃ y∈ms.take i,beg y=t)∨t=beg x:=fun t=>by
    rw[htk];constructor
    ·rintro⟨y,h1,h2⟩
     rcases bu.mp h1 with z | z
     ·exact .inl ⟨y,z,h2⟩
     ·rw[a7.mp z] at h2
      exact .inr h2.symm
    ·rintro (⟨y,h1,h2⟩ | h)
     ·exact⟨y,im _ h1,h2⟩
     ·exact⟨x,br _ (a7.mpr rfl),h.symm⟩
   have hgl:∀ t,(Dt.og (ms.take i) t).length<=1000:=fun t=>av (cq ..) (by rw[a6];omega)
   refine⟨_,rfl,D,rfl,⟨_,hd⟩,_,rfl,x,rfl,⟨hxx.1,hxx.2⟩,(by show 0<=sizeLine;omega),fun e he=>?_⟩;have s1:=aH (o:=.lst []) he;have h1:upd G e (.lst []) e=some (.lst []):=aD;have heH:H e=none:=gC sG he;have heD:e≠D:=fun z=>by rw[z,hd] at he;cases he
   have hd1:=s1 D _ hd;have hwa1:=hwa.mono s1;have sG1:=sG.trans s1;have hev:V.ref e∉kvs.map (·.2):=fun z=>by
    have key:∀ {ts:List (List Nat)} {kvs:List (Key×V)},bI G (Dt.og (ms.take i)) ts kvs->V.ref e∉kvs.map (·.2):=fun {ts kvs} h=>by
     induction h with
     | nil=>intro z;cases z
     | @cons o a' _ _ e1 _ ih =>
      intro z;rcases ar.mp z with z | z
      ·cases z;rw[he] at e1;cases e1
      ·exact ih z
    exact key hwa z
   generalize upd G e (.lst [])=G1 at s1 h1 hd1 hwa1 sG1;refine⟨kvs,b9 (tx (beg x)),hd1,rfl,by rw[hwa.len];omega,fun v hv=>?_,fun hn=>?_⟩
   ·have hol:beg x∈ts:=Decidable.byContradiction fun z=>by rw[wO hwa z] at hv;cases hv
    obtain⟨b,hb1,hb2⟩:=hwa1.get hol;obtain rfl:v = .ref b:=by rw[hb1] at hv;exact (a8 hv).symm
    have hbH:=hf b (by
     have vm:∀ {kvs:List (Key×V)} {k:Key} {v:V},eC kvs k=some v->v∈kvs.map (·.2):=fun {kvs k v}=>by
      induction kvs with
      | nil=>intro e;cases e
      | cons kv kvs ih =>
       intro e;obtain⟨k',v'⟩:=kv;by_cases hk:k'=k
       ·rw[fX hk] at e;cases e;exact al ..
       ·rw[fF hk] at e;exact aj _ (ih e)
     exact vm hv)
    have hbD:b≠D:=fun z=>by rw[z,hd1] at hb2;cases hb2
    refine⟨.inl ⟨rfl,_,SqL.of hb2⟩,_,rfl,b,_,_,rfl,rfl,hb2,(by rw[aR];have:=hgl (beg x);omega),?_⟩;have hw2:=hwa1.app (x:=x) nd nv hol hb1;refine⟨fun b' o e'=>by rw[aM (fun z=>by rw[z,hbH] at e';cases e')];exact sG1 b' o e',kvs,ts,_,by rw[aM hbD.symm];exact hd1,?_,nd,nv,hf,by omega,fun t=>?_,rfl⟩
    ·rw[bc] at hw2
     refine hw2.cong fun t _=>?_
     rw[htk,Ho];by_cases z:t=beg x
     ·rw[if_pos z,if_pos z,z]
     ·rw[if_neg z,if_neg z]
    ·rw[hm2,hm]
     exact⟨.inl,fun h=>h.elim id fun z=>z▸(hm _).mp hol⟩
   ·have hol:beg x∉ts:=fun z=>by obtain⟨a,h1,_⟩:=hwa1.get z;rw[h1] at hn;cases hn
    have hep:upd G1 D (.dK (eV kvs (b9 (tx (beg x))) (.ref e))) e=some (.lst []):=by rw[aM heD];exact h1
    refine⟨.inl ⟨rfl,_,SqL.of hep⟩,_,rfl,e,_,_,rfl,rfl,hep,(by show 0<sizeLine;omega),?_⟩;have hpk:eV kvs (b9 (tx (beg x))) (.ref e)=kvs++[(b9 (tx (beg x)),.ref e)]:=by
     unfold eV;rw[if_neg];intro z;obtain⟨kv,z1,z2⟩:=oj.mp z;have h3:kv.1∈kvs.map (·.1):=gg z1;rw[hwa.keys,of_decide_eq_true z2] at h3;obtain⟨t,h4,h5⟩:=ao.mp h3;exact hol (eX (il h5)▸h4)
    have og0:Dt.og (ms.take i) (beg x)=[]:=ge.mpr fun u hu z=>hol ((hm _).mpr ⟨u,hu,of_decide_eq_true z⟩)
    have hne:∀ b' o,H b'=some o->b'≠e∧b'≠D:=fun b' o e'=>⟨fun z=>(by rw[z,heH] at e';cases e'),fun z=>(by rw[z,hD] at e';cases e')⟩
    refine⟨fun b' o e'=>by rw[aM (hne b' o e').1,aM (hne b' o e').2];exact sG1 b' o e',_,ts++[beg x],_,by rw[aM heD.symm];exact aD,?_,?_,?_,?_,by rw[ak];show _+1<=_;omega,fun t=>?_,rfl⟩
    ·have hw2:bI (upd (upd G1 D (.dK (eV kvs (b9 (tx (beg x))) (.ref e)))) e (.lst ([]++[T x]))) (fun t=>if t=beg x then [x] else Dt.og (ms.take i) t) ts kvs:=by
      have hw3:=hwa1.updD (o:=.dK (eV kvs (b9 (tx (beg x))) (.ref e))) hd1;have key:∀ {G':Hp} {ts:List (List Nat)} {kvs:List (Key×V)},bI G' (Dt.og (ms.take i)) ts kvs->V.ref e∉kvs.map (·.2)->beg x∉ts->bI (upd G' e (.lst ([]++[T x]))) (fun t=>if t=beg x then [x] else Dt.og (ms.take i) t) ts kvs:=fun {G' ts kvs} h=>by
       induction h with
       | nil=>intro _ _;exact .nil
       | @cons o a' _ _ e1 _ ih =>
        intro z1 z2;have n1:a'≠e:=fun z=>z1 (z▸al ..)
        have n2:o≠beg x:=fun z=>z2 (z▸al ..)
        exact .cons (by rw[aM n1,if_neg n2];exact e1) (ih (fun z=>z1 (aj _ z)) fun z=>z2 (aj _ z))
      exact key hw3 hev hol
     rw[hpk];rw[hpk] at hw2;refine (hw2.snoc (a:=e) (by rw[aD,if_pos rfl];rfl)).cong fun t _=>?_
     rw[htk,Ho];by_cases z:t=beg x
     ·rw[if_pos z,if_pos z,z,og0];rfl
     ·rw[if_neg z,if_neg z]
    ·exact d9.mpr ⟨nd,by simp,fun a' ha c hc z=>hol (by rw[<- a7.mp hc,<- z];exact ha)⟩
    ·rw[hpk,bc]
     exact d9.mpr ⟨nv,by simp,fun a' ha c hc z=>hev (by have hc:c=V.ref e:=a7.mp hc;rw[<- hc,<- z];exact ha)⟩
    ·intro b hb
     rw[hpk,bc] at hb;rcases bu.mp hb with z | z
     ·exact hf b z
     ·have z:V.ref b=V.ref e:=a7.mp z
      cases z;exact heH
    ·rw[hm2,bu,hm,a7]
  ·rintro σ G ⟨sG,kvs,ts,v2,hd,hwa,nd,nv,hf,hlt,hm,rfl⟩
   rw[aR,cf] at hwa;rw[aR,cf] at hm;exact⟨_,rfl,q D kvs ts G hD sG hd hwa nd hm⟩
def Qn:Sp:=fun vs H Q _=>∃ (k:Nat),vs=[.int (k:Nat)]∧k<=1000∧Q (.int (Dt.fct k:Nat)) H
theorem pC {f:Addr}{fd:FuncData}(F:Fun K "product_up_to" "product_up_to" gG f fd)(tt:Txt K mg ad):bW P w K mg base (CX1 P w) 1 f fd ["many"] Qn:=by
 refine F.okN eJ (fun vs H Q E h=>?_) (fun cdv A outer s H vs Q E hr h=>?_)
 ·obtain⟨k,rfl,_⟩:=h
  rfl
 ·obtain⟨k,rfl,hk,q⟩:=h
  refine⟨_,(aB (aI (i:=1) eJ.nd rfl (Or.inl rfl) aG)
   (aB (cM PassesOwn.never rfl (Je (by rfl) tt.b_range (aA aG (aA (aQ dJ (pv 0) aG) aC))) (bK (i:=2) eJ.nd rfl (Or.inl rfl)) (aE (aI (i:=1) eJ.nd rfl (Or.inl rfl) (aQ mM (pv 1) (pv 2)))))
   (aE (aV (pv 1))))),?_⟩
  (try rw[cP]);(try rw[cxK1])
  refine⟨_,rfl,_,_,rfl,rfl,_,_,rfl,⟨by decide,by decide,by omega,by omega⟩,?_⟩;rw[show (((k:Nat):Int)+1-1).toNat=k by omega];refine fQ (fun j σ G=>G=H∧∃ v2:Option V,σ=[some (.int (k:Nat)),some (.int (Dt.fct j:Nat)),v2]) ⟨rfl,none,rfl⟩ ?_ ?_
  ·rintro j σ G hj ⟨rfl,v2,rfl⟩
   refine⟨_,rfl,_,rfl,_,_,rfl,rfl,.inr ⟨by omega,by omega⟩,rfl,some (.int (1+(j:Int))),?_⟩;show [_,some (V.int (((Dt.fct j:Nat):Int)*(1+(j:Int)))),_]=[_,some (V.int (((j+1)*Dt.fct j:Nat):Int)),_];rw[show (((j+1)*Dt.fct j:Nat):Int)=((Dt.fct j:Nat):Int)*(1+(j:Int)) by rw[fk,gq,l7,Int.add_comm];rfl]
  ·rintro σ G ⟨rfl,v2,rfl⟩
   exact⟨_,rfl,q⟩
theorem bI.drop {H:Hp}{g:List Nat->List (List Nat)}{ts:List (List Nat)}{kvs:List (Key×V)}{o:List Nat}(h:bI H g ts kvs):bI H g (ts.filter fun t=>decide (t≠o)) (rP kvs (b9 (tx o))):=by
 unfold rP
 induction h with
 | nil=>exact .nil
 | @cons o' a _ _ e _ ih =>
  by_cases z:o'=o
  ·subst z
   rw[dj (by simp),dj (by simp)];exact ih
  ·rw[dt (by simp[z]),dt (by
    have:(b9 (tx o'):Key)≠b9 (tx o):=fun y=>z (eX (il y))
    simp[this])]
   exact .cons e ih
theorem Qd {n:Nat}(h:n<=64 ^ 200):Bg ((n:Nat):Int):=by
 show ((n:Nat):Int).natAbs<2 ^ 8000;rw[ei];exact eh h (by
  rw[show (64:Nat)=2 ^ 6 from rfl,<- jy];exact ly (by decide) (by decide))
def nU (K:ae):Sp:=fun vs H Q _=>∃ (a:Addr) (ms:List (List Nat)) (one other:List Nat),vs=[.ref a,T one,T other]∧SqA K H a (ms.map T)∧(ms.Nodup∧ms.length<=60∧∀ x∈ms,1<=x.length∧x.length<=1000)∧∀ (H':Hp),aK H H'->Q (.int (Dt.eN ms one other:Nat)) H'
theorem Dr {f:Addr}{fd:FuncData}(F:Fun K "ways_on" "ways_on" pU f fd)(tt:Txt K mg ad)(C_is_even:Cal P w K mg base (CX1 P w) "is_even" 2 ["words", "one", "other"] (Mo K))(C_by_begin:Cal P w K mg base (CX1 P w) "by_begin" 2 ["words"] (Pe K))(C_product_up_to:Cal P w K mg base (CX1 P w) "product_up_to" 1 ["many"] Qn)(C_choices_counted:Cal P w K mg base (CX1 P w) "choices_counted" 4 ["ways"] (xK K)) :
  bW P w K mg base (CX1 P w) 5 f fd ["words", "one", "other"] (nU K):=by
 refine F.okN gY (fun vs H Q E h=>?_) (fun cdv A outer s H vs Q E hr h=>?_)
 ·obtain⟨a,ms,one,other,rfl,_⟩:=h
  rfl
 ·obtain⟨a,ms,one,other,rfl,hS,⟨hnd,hl,hx⟩,q⟩:=h
  have hs:sizeLine=16777216:=sizeLine_eq;refine⟨_,(aB (bS (zD (yE (aJ C_is_even hr aS (aA (pv 0) (aA (pv 1) (aA (pv 2) aC)))))) (aE (aV aG)) aY)
   (aB (aI (i:=3) gY.nd rfl (Or.inl rfl) (aJ C_by_begin hr aS (aA (pv 0) aC)))
   (aB (Vd (t':=(fun D σ H=>∃ (a d:Addr) (one other:List Nat) (ms ts:List (List Nat)) (kvs:List (Key×V)),σ=[some (.ref a),some (T one),some (T other),some (.ref d),none,none]∧H d=some (.dK kvs)∧bI H (Dt.og ms) ts kvs∧(∀ t,t∈ts↔∃ x∈ms,beg x=t)∧ms.length<=60∧∀ (H3:Hp) (k3:List (Key×V)),(∀ b o,b≠d->H b=some o->H3 b=some o)->H3 d=some (.dK k3)->bI H3 (Dt.og ms) (ts.filter fun t=>decide (t≠other)) k3->D.nx [some (.ref a),some (T one),some (T other),some (.ref d),some (.int (Dt.fct (Wd.cnt Wd.beg ms other):Nat)),none] H3)) (aI (i:=4) gY.nd rfl (Or.inl rfl) (aJ C_product_up_to hr aS (aA (aL aN (by rfl) tt.b_len a0 (aA (Pi (pv 3) (pv 2) (cJ aC) ⟨rfl,rfl,rfl,rfl⟩) aC)) aC))) ?rA)
   (aB (cM PassesOwn.never rfl (Hy (pv 3)) (bK (i:=5) gY.nd rfl (Or.inl rfl)) (aE (aI (i:=4) gY.nd rfl (Or.inl rfl) (aQ eE (pv 4) (aJ C_product_up_to hr aS (aA (aQ eR (aL aN (by rfl) tt.b_len a0 (aA (lF (fW hr) (pv 3) (pv 5) (fun _ _=>rfl)) aC)) aG) aC))))))
   (aE (aV (aQ eE (Tc (pv 4)) (aJ C_choices_counted hr aS (aA (pv 3) aC))))))))),?_⟩
  (try rw[cP]);(try rw[cxK1])
  case rA =>
   rintro D0 σ G ⟨a,d,one,other,ms,ts,kvs,rfl,hd,hwa,hm,hl,nxt⟩;have hgl:(Dt.og ms other).length<=60:=av (cq ..) hl;refine⟨_,rfl,d,rfl,.inl ⟨_,.inl hd⟩,_,rfl,(by show 0<=sizeLine;omega),fun e he=>?_⟩;have s1:=aH (o:=.lst []) he;have h1:upd G e (.lst []) e=some (.lst []):=aD;have hed:e≠d:=fun z=>by rw[z,hd] at he;cases he
   generalize upd G e (.lst [])=G1 at s1 h1;have hwd:=(hwa.mono s1).drop (o:=other);refine⟨kvs,b9 (tx other),s1 d _ hd,rfl,fun v hv=>?_,fun hn=>?_⟩
   ·have hol:other∈ts:=Decidable.byContradiction fun z=>by rw[wO hwa z] at hv;cases hv
    obtain⟨b,hb1,hb2⟩:=(hwa.mono s1).get hol;obtain rfl:v = .ref b:=by rw[hb1] at hv;exact (a8 hv).symm
    have hbd:b≠d:=fun z=>by rw[z,s1 d _ hd] at hb2;cases hb2
    refine⟨b,_,rfl,.inl (SqL.of (by rw[aM hbd];exact hb2)),(Dt.og ms other).length,congrArg (fun z=>[V.int z]) (by rw[aR]),by omega,?_⟩;exact nxt _ _ (fun b' o hb' e'=>by rw[aM hb'];exact s1 b' o e') aD (hwd.updD (s1 d _ hd))
   ·have hol:other∉ts:=fun z=>by obtain⟨b,h1,_⟩:=hwa.get z;rw[h1] at hn;cases hn
    have e0:Dt.og ms other=[]:=ge.mpr fun u hu z=>hol ((hm _).mpr ⟨u,hu,of_decide_eq_true z⟩)
    have e1:Wd.cnt Wd.beg ms other=0:=congrArg gi e0;refine⟨e,_,rfl,.inl (SqL.of h1),0,rfl,by omega,?_⟩;rw[e1] at nxt;have ef:ts.filter (fun t=>decide (t≠other))=ts:=gh.mpr fun t ht=>decide_eq_true fun z=>hol (z▸ht)
    exact nxt G1 kvs (fun b' o _ e'=>s1 b' o e') (s1 d _ hd) (by rw[ef];exact hwa.mono s1)
  refine⟨_,rfl,_,rfl,_,rfl,a,ms,one,other,rfl,hS,⟨hl,hx⟩,fun b H1 s1 hb=>⟨_,rfl,?_⟩⟩;by_cases hbal:Wd.Bal ms one other
  ·obtain rfl:=hb.mpr hbal
   refine tI ?_;refine⟨_,rfl,a,ms,rfl,hS.on s1,⟨by omega,hx⟩,fun D kvs ts H2 hD s2 hd hwa nd hm=>?_⟩;have hDH:H D=none:=gC s1 hD;have hgl:∀ t,(Dt.og ms t).length<=60:=fun t=>av (cq ..) hl
   have htl:ts.length<=60:=by
    have z:ts.length<=(ms.map beg).length:=nd.length_le_of_subset fun z hz=>by
     obtain⟨w,hw,h⟩:=(hm z).mp hz;exact h▸gg hw
    rw[aR] at z;omega
   refine⟨a,D,one,other,ms,ts,kvs,rfl,hd,hwa,hm,hl,fun H3 k3 k23 hd3 hwa3=>?_⟩;have s3:aK H H3:=fun b o e=>k23 b o (aO e hDH) (s2 b o (s1 b o e))
   obtain⟨us,hus⟩:∃ us,us=ts.filter fun t=>decide (t≠other):=⟨_,rfl⟩
   rw[<- hus] at hwa3;have ndu:us.Nodup:=hus▸nd.sublist j9;have hul:us.length<=60:=av (hus▸cq ..) htl;have hum:∀ t,t∈us↔t≠other∧∃ x∈ms,beg x=t:=fun t=>by rw[hus,cc,hm,decide_eq_true_iff];exact⟨fun h=>⟨h.2,h.1⟩,fun h=>⟨h.2,h.1⟩⟩
   have hcb:Dt.fct (Wd.cnt Wd.beg ms other)<=64 ^ 60:=av (Dt.yZ (av (hgl other) (by decide))) (db (by decide) (hgl other));have hpb:∀ l:List (List Nat),l.Nodup->Dt.pF (Wd.cnt Wd.beg ms) l<=64 ^ 60:=fun l hl'=>av (Dt.Uz fun t _=>av (hgl t) (by decide)) (db (by decide) (av (Dt.yQ hl') hl))
   have hob:∀ l:List (List Nat),l.Nodup->Bg ((Dt.fct (Wd.cnt Wd.beg ms other)*Dt.pF (Wd.cnt Wd.beg ms) l:Nat):Int):=fun l hl'=>Qd (av (fg hcb (hpb l hl')) (by rw[<- jh];exact db (by decide) (by decide)))
   have hklen:=hwa3.len;refine⟨_,rfl,D,k3,rfl,hd3,fun o=>?_⟩;have hfr:upd H3 D (.frz o (.dK k3)) D=some (.frz o (.dK k3)):=aD;have hwf:bI (upd H3 D (.frz o (.dK k3))) (Dt.og ms) us k3:=hwa3.updD hd3;refine Az (fun i σ G=>G=upd H3 D (.frz o (.dK k3))∧∃ v5:Option V,σ=[some (.ref a),some (T one),some (T other),some (.ref D),some (.int (Dt.fct (Wd.cnt Wd.beg ms other)*Dt.pF (Wd.cnt Wd.beg ms) (us.take i):Nat)),v5]) ⟨rfl,none,by rw[jc];show _=[_,_,_,_,some (V.int ((Dt.fct (Wd.cnt Wd.beg ms other)*1:Nat):Int)),_];rw[qc]⟩ (fun i σ G _ h=>by rw[h.1];exact hfr) ?_ ?_
   ·rintro i kv σ G hi ⟨rfl,v5,rfl⟩
    have hik:(k3.map (·.1))[i]?=some kv.1:=by rw[ah,hi];rfl
    rw[hwa3.keys,ah] at hik;obtain⟨t,hti,hkt⟩:=ba.mp hik;rw[show kV kv.1=T t by rw[<- hkt];rfl];have htk:us.take (i+1)=us.take i++[t]:=by rw[ca,hti];rfl
    have htu:=au hti;obtain⟨b,hb1,hb2⟩:=hwf.get htu;have hpos:0<(Dt.og ms t).length:=by
     obtain⟨_,x,h1,h2⟩:=(hum t).mp htu;exact dl (Dt.cD.mpr ⟨h1,h2⟩)
    have hgt:=hgl t;refine⟨_,rfl,_,rfl,_,rfl,D,_,rfl,.inl ⟨k3,b9 (tx t),.inr ⟨o,hfr⟩,rfl,hb1.symm⟩,b,_,rfl,.inl (SqL.of hb2),_,_,rfl,rfl,(Dt.og ms t).length-1,congrArg (fun z=>[V.int z]) (by rw[aR];omega),by omega,_,_,rfl,rfl,⟨hob _ (ndu.sublist (gc i us)),Qd (av (Dt.yZ (by omega)) (db (by decide) (by omega)))⟩,?_⟩;refine⟨rfl,some (T t),?_⟩;rw[htk,Dt.Fx,<- dy,fk];rfl
   ·rintro σ G ⟨rfl,v5,rfl⟩
    rw[hklen,cf];refine⟨_,rfl,D,o,k3,hfr,hDH,?_⟩;have back:upd (upd H3 D (.frz o (.dK k3))) D (.dK k3)=H3:=by
     rw[Hu]
     funext b
     by_cases hb:b=D
     ·subst hb
      rw[aD,hd3]
     ·rw[aM hb]
    rw[back];obtain⟨hsq,hpl⟩:=Qy (ls:=us) (g:=Dt.og ms) (by omega) fun t _=>av (hgl t) (by decide)
    refine⟨_,rfl,D,us,k3,Dt.og ms,rfl,hd3,hwa3,⟨by omega,fun t _=>⟨av (hgl t) (by decide),fun y hy=>hx y (cc.mp hy).1⟩⟩,hsq,hpl,fun H4 s4=>?_⟩;rw[Xy ndu];have hcn:Dt.nC us (Dt.og ms)<=64 ^ 60:=av Dt.Zj (av (db (by decide) (av (Dt.yQ ndu) hl)) (Nat.pow_le_pow_left (by decide) 60));refine⟨_,_,rfl,rfl,⟨hob us ndu,Qd (av hcn (db (by decide) (by decide)))⟩,?_⟩;have e:=Dt.Rr ms.length rfl hnd hbal (ts:=us) ⟨ndu,hum⟩;have z:=q H4 (s3.trans s4);rw[e] at z;unfold Dt.bst at z;rw[fk] at z;exact z
  ·cases b with
   | true=>exact absurd (hb.mp rfl) hbal
   | false =>
    refine vD ?_
    have:=q H1 s1
    rw[Dt.oQ hnd hbal] at this;exact this
def vW (K:ae):Sp:=fun vs H Q _=>∃ (a:Addr) (ls:List (List Nat)) (w:List Nat),vs=[.ref a,T w]∧SqL K H a (ls.map T)∧ls.length<=1000∧∀ (D:Addr) (H':Hp),H D=none->aK H H'->H' D=some (.lst ((Dt.rm ls w).map T))->Q (.ref D) H'
theorem Dw {f:Addr}{fd:FuncData}(F:Fun K "without" "without" lH f fd)(tt:Txt K mg ad):bW P w K mg base (CX1 P w) 1 f fd ["words", "word"] (vW K):=by
 refine F.okN Cs (fun vs H Q E h=>?_) (fun cdv A outer s H vs Q E hr h=>?_)
 ·obtain⟨a,ls,wd,rfl,_⟩:=h
  rfl
 ·obtain⟨a,ls,wd,rfl,hS,hl,q⟩:=h
  have hs:sizeLine=16777216:=sizeLine_eq;refine⟨_,(aE (aV (rY yL rfl (bH (pv 0)) (fun cl C s' H' fp=>(aP jV (pv 0) (pv 2) (aW _))) (fun cl C s' H' fp=>(pv 0))))),?_⟩
  (try rw[cP]);(try rw[cxK1])
  refine⟨_,rfl,a,rfl,⟨_,hS⟩,?_⟩;refine gZ (fun v=>!decide (unT v=wd)) (fun v=>v) (bC hS) (by rw[aR];omega) (fun v G5 hv s5 N hN=>?_) (fun v G5 hv hp s5 N hN=>?_) fun D5 G5 hD5 s5 hd5=>?_
  ·obtain⟨l,hl,rfl⟩:=ao.mp hv
   have z:=hN G5 (aK.refl _);rw[cS] at z;exact⟨_,rfl,_,rfl,_,rfl,_,rfl,_,rfl,z⟩
  ·exact⟨_,rfl,hN G5 (aK.refl _)⟩
  ·refine q D5 G5 hD5 s5 ?_
   rw[hd5,show (ls.map T).filter (fun v=>!decide (unT v=wd))=(ls.filter fun o=>!decide (o=wd)).map T from cO (p:=fun o=>!decide (o=wd)) ls,ml];rfl
theorem Hz {w:List Nat}(h:1<=w.length):atI w (-1)=some (Wd.bU w):=by
 show (ixN w.length (-1)).bind _=_;unfold ixN;rw[if_neg (by decide),if_pos (by omega),show ((-1:Int)+((w.length:Nat):Int)).toNat=w.length-1 by omega];show w[w.length-1]?=_;unfold Wd.bU;rw[ai,aa (by omega)];rfl
def xV (K:ae):Sp:=fun vs H Q _=>∃ (a:Addr) (ms us:List (List Nat)) (one other:List Nat) (k:Nat),vs=[.ref a,T one,T other,.int (k:Nat)]∧SqA K H a (ms.map T)∧(ms.Nodup∧ms.length<=60∧one.length<=1000∧∀ x∈ms,1<=x.length∧x.length<=1000)∧(Dt.cH ms.length ms one other)[k]?=some us∧∀ (H':Hp),aK H H'->Q (T (one++us.map Wd.bU)) H'
theorem Kl {f:Addr}{fd:FuncData}(F:Fun K "way_by" "way_by" uQ f fd)(tt:Txt K mg ad)(C_by_begin:Cal P w K mg base (CX1 P w) "by_begin" 2 ["words"] (Pe K))(C_ways_on:Cal P w K mg base (CX1 P w) "ways_on" 5 ["words", "one", "other"] (nU K))(C_without:Cal P w K mg base (CX1 P w) "without" 1 ["words", "word"] (vW K))(C_end_of:Cal P w K mg base (CX1 P w) "end_of" 1 ["word"] nM) :
  bW P w K mg base (CX1 P w) 6 f fd ["words", "one", "other", "number"] (xV K):=by
 refine F.okN dB (fun vs H Q E h=>?_) (fun cdv A outer s H vs Q E hr h=>?_)
 ·obtain⟨a,ms,us,one,other,k,rfl,_⟩:=h
  rfl
 ·obtain⟨a,ms,us,one,other,k,rfl,hS,⟨hnd,hl,hol,hx⟩,hus,q⟩:=h
  have hs:sizeLine=16777216:=sizeLine_eq;have hu:=ld (fW hr);have husl:us.length=ms.length:=(Dt.oG hnd hus).1.length_eq;refine⟨_,(aB (aI (i:=4) dB.nd rfl (Or.inl rfl) (pv 1))
   (aB (aI (i:=5) dB.nd rfl (Or.inl rfl) (pv 1))
   (aB (aI (i:=6) dB.nd rfl (Or.inl rfl) (dU nJ (by rfl) tt.b_list (by decide +kernel) (aA (pv 0) aC)))
   (aB (aI (i:=7) dB.nd rfl (Or.inl rfl) (pv 3))
   (aB (iX PassesOwn.never (aP (Bs K rfl hu) (pv 6) (cJ aC) (aW _)) (aB (cM PassesOwn.never rfl (bH (lF (fW hr) (aJ C_by_begin hr aS (aA (pv 6) aC)) (pv 5) (fun _ _=>rfl))) (bK (i:=8) dB.nd rfl (Or.inl rfl)) (aB (aI (i:=9) dB.nd rfl (Or.inl rfl) (aJ C_ways_on hr aS (aA (aJ C_without hr aS (aA (pv 6) (aA (pv 8) aC))) (aA (aJ C_end_of hr aS (aA (pv 8) aC)) (aA (pv 2) aC)))))
   (aB (bS (aP kZ (pv 7) (pv 9) (aW _)) (aE rZ) aY)
   (aE (aI (i:=7) dB.nd rfl (Or.inl rfl) (aQ eR (pv 7) (pv 9)))))))
   (aB (aI (i:=4) dB.nd rfl (Or.inl rfl) (aQ gB (pv 4) (cL Kf (pv 8) (mF iO aG) (fun _ _=>rfl))))
   (aB (aI (i:=5) dB.nd rfl (Or.inl rfl) (aJ C_end_of hr aS (aA (pv 8) aC)))
   (aE (aI (i:=6) dB.nd rfl (Or.inl rfl) (aJ C_without hr aS (aA (pv 6) (aA (pv 8) aC)))))))))
   (aE (aV (pv 4)))))))),?_⟩
  (try rw[cP]);(try rw[cxK1])
  refine⟨_,rfl,?_⟩;refine⟨_,rfl,?_⟩;refine⟨_,rfl,a,_,rfl,hS,fun L0 hL0=>?_⟩;have t0:=aH (o:=.lst (ms.map T)) hL0;refine⟨_,rfl,?_⟩;refine⟨fun m σ G=>∃ (Lf:Addr) (lf gs rs:List (List Nat)) (at':List Nat) (j:Nat) (v8 v9:Option V),m=lf.length∧aK H G∧G Lf=some (.lst (lf.map T))∧(∀ y∈lf,y∈ms)∧lf.length<=60∧lf.Nodup∧(Dt.cH lf.length lf at' other)[j]?=some rs∧gs++rs=us∧σ=[some (.ref a),some (T one),some (T other),some (.int (k:Nat)),some (T (one++gs.map Wd.bU)),some (T at'),some (.ref Lf),some (.int (j:Nat)),v8,v9],
   ⟨_,L0,ms,[],us,one,k,none,none,rfl,t0,aD,fun y hy=>hy,hl,hnd,hus,rfl,by rw[ip,df];rfl⟩,?_⟩
  rintro m σ G ⟨Lf,lf,gs,rs,at',j,v8,v9,hm,sG,hL,hsub,hll,hlnd,hrs,hgr,rfl⟩;refine⟨_,rfl,(by show 0<=sizeLine;omega),fun E0 hE0=>?_⟩;have tE:=aH (o:=.lst []) hE0;refine⟨Lf,E0,_,rfl,rfl,SqL.of (tE Lf _ hL),SqL.of aD,_,rfl,?_⟩;by_cases hle:lf=[]
  ·subst hle
   refine tI ?_;refine⟨_,rfl,?_⟩;have h1:rs=[]:=by
    have:=(Dt.oG hlnd hrs).1
    exact nk.mp this
   rw[h1,df] at hgr;rw[hgr];exact q _ (sG.trans tE)
  ·refine itP (by cases lf with | nil=>exact absurd rfl hle | cons y r=>rfl) ?_
   refine⟨_,fun σ' H' z=>z,?_⟩;obtain⟨n,hn⟩:∃ n,lf.length=n+1:=⟨lf.length-1,by have:=cn.mpr hle;omega⟩;have hlx:∀ y∈lf,1<=y.length∧y.length<=1000:=fun y hy=>hx y (hsub y hy)
   have hgl:gs.length<=60:=by
    have:=congrArg gi hgr
    rw[ak] at this;omega
   refine⟨_,rfl,Lf,lf,rfl,.inl (SqL.of (tE Lf _ hL)),⟨by omega,hlx⟩,fun D kvs ts G1 hD s1 hd hwa nd hmt=>?_⟩;have hat:at'∈ts:=by
    obtain⟨h1,h2⟩:=Dt.oG hlnd hrs
    cases rs with
    | nil=>have:=h1.length_eq;rw[hn] at this;cases this
    | cons w r=>exact (hmt _).mpr ⟨w,h1.mem_iff.mp (al ..),h2.1⟩
   obtain⟨b,hb1,hb2⟩:=hwa.get hat;have sG1:=sG.trans (tE.trans s1);have hL1:=s1 Lf _ (tE Lf _ hL);refine⟨_,rfl,D,_,rfl,(by have z:=lS.k (k:=b9 (tx at')) hd;rw[hb1] at z;exact z),b,rfl,⟨_,SqL.of hb2⟩,?_⟩;refine dA (K:=K) (a:=b) (xs:=(Dt.og lf at').map T) (fun i σ G'=>aK G1 G'∧∃ (j':Nat) (v8 v9:Option V),(((Dt.og lf at').drop i).flatMap fun w=>(Dt.cH n (Dt.rm lf w) (Wd.fin w) other).map fun us=>w::us)[j']?=some rs∧σ=[some (.ref a),some (T one),some (T other),some (.int (k:Nat)),some (T (one++gs.map Wd.bU)),some (T at'),some (.ref Lf),some (.int (j':Nat)),v8,v9])
    ⟨aK.refl _,j,v8,v9,by rw[gd];rw[hn] at hrs;exact hrs,rfl⟩ (fun i σ G' _ h=>SqL.of (h.1 b _ hb2)) ?_ ?_
   ·rintro i y σ G' hi ⟨sG',j',v8,v9,hj',rfl⟩
    obtain⟨wd,hwi,rfl⟩:∃ wd,(Dt.og lf at')[i]?=some wd∧T wd=y:=by rw[ah] at hi;exact ba.mp hi
    obtain⟨hwl,hwb⟩:=Dt.cD.mp (au hwi);have hwx:=hlx wd hwl;have hrl:(Dt.rm lf wd).length=n:=by have:=Dt.dQ hlnd hwl;omega
    have hdr:(Dt.og lf at').drop i=wd::(Dt.og lf at').drop (i+1):=by
     obtain⟨hi1,hi2⟩:=aw.mp hwi;rw[ij hi1,hi2]
    rw[hdr,Dt.Ox] at hj';have hel:((Dt.cH n (Dt.rm lf wd) (Wd.fin wd) other).map fun us=>wd::us).length=Dt.eN (Dt.rm lf wd) (Wd.fin wd) other:=by rw[aR];unfold Dt.eN;rw[hrl]
    rw[hel] at hj';refine⟨_,rfl,_,rfl,Lf,lf,wd,rfl,SqL.of (sG' Lf _ hL1),by omega,fun D2 G2 hD2 s2 hd2=>?_⟩;refine⟨_,rfl,wd,rfl,⟨hwx.1,hwx.2⟩,_,rfl,D2,Dt.rm lf wd,Wd.fin wd,other,rfl,.inl (SqL.of hd2),⟨Dt.dH hlnd,by omega,fun y hy=>hlx y (Dt.dY.mp hy).1⟩,fun G3 s3=>?_⟩;have t3:=s2.trans s3;refine⟨_,rfl,_,rfl,_,_,rfl,rfl,_,rfl,?_⟩;by_cases hlt:j'<Dt.eN (Dt.rm lf wd) (Wd.fin wd) other
    ·refine itP (decide_eq_true (by omega)) ?_
     rw[if_pos hlt,ah] at hj';obtain⟨rs',hrs',hrr⟩:=ba.mp hj';have hL3:=t3 Lf _ (sG' Lf _ hL1);refine⟨_,rfl,_,rfl,_,rfl,_,rfl,_,rfl,(by omega),_,Hz (by omega),_,rfl,_,rfl,(by rw[ak,aR];show _+_+1<=sizeLine;omega),?_⟩;refine⟨_,rfl,wd,rfl,⟨by omega,by omega⟩,?_⟩;refine⟨_,rfl,_,rfl,Lf,lf,wd,rfl,SqL.of hL3,by omega,fun D4 G4 hD4 s4 hd4=>?_⟩;refine⟨(Dt.rm lf wd).length,by omega,D4,Dt.rm lf wd,gs++[wd],rs',Wd.fin wd,j',some (T wd),some (.int ((Dt.eN (Dt.rm lf wd) (Wd.fin wd) other:Nat):Int)),rfl,sG1.trans (sG'.trans (t3.trans s4)),hd4,fun y hy=>hsub y (Dt.dY.mp hy).1,by omega,Dt.dH hlnd,by rw[hrl];exact hrs',?_,?_⟩
     ·rw[c6]
      show gs++(wd::rs')=us;rw[hrr];exact hgr
     ·rw[bc,<- c6]
      rfl
    ·refine itN (fun z=>hlt (by have:=of_decide_eq_true z;omega)) ?_
     rw[if_neg hlt] at hj';refine⟨_,rfl,_,rfl,_,_,rfl,rfl,?_⟩;refine⟨sG'.trans t3,j'-Dt.eN (Dt.rm lf wd) (Wd.fin wd) other,some (T wd),some (.int ((Dt.eN (Dt.rm lf wd) (Wd.fin wd) other:Nat):Int)),hj',?_⟩;rw[show ((j'-Dt.eN (Dt.rm lf wd) (Wd.fin wd) other:Nat):Int)=((j':Nat):Int)-((Dt.eN (Dt.rm lf wd) (Wd.fin wd) other:Nat):Int) by omega];rfl
   ·rintro σ G' ⟨sG',j',v8,v9,hj',rfl⟩
    rw[aR,sj] at hj';cases hj'
theorem yR {ms:List (List Nat)}{m0:List Nat}(hnd:ms.Nodup)(h:ms[0]?=some m0):ms=m0::ms.drop 1∧ms.drop 1=Dt.rm ms m0:=by
 cases ms with
 | nil=>cases h
 | cons x r =>
  have e:x=m0:=by simpa using h
  subst e;refine⟨rfl,?_⟩;rw[bv] at hnd;show r=((x::r).filter fun y=>!decide (y=x));rw[dj (by simp),gh.mpr fun y hy=>by have:y≠x:=fun z=>hnd.1 (z▸hy);simp[this]]
theorem xB {ls:List (List Nat)}{k:Nat}(h:k<=ls.length):dE (ls.map T) (some (k:Int)) none=(ls.drop k).map T:=by
 unfold dE;rw[HT.eF,HT.eO,aR,fm h,<- kg,<- kh,cj (by rw[a9];omega)]
theorem Ii {ls:List (List Nat)}(h:0<ls.length):¬ (HT.sIx (ls.map T).length 0 (some (1:Int))=0∧HT.sIx (ls.map T).length (ls.map T).length none=(ls.map T).length):=fun z=>by
 have z1:=z.1;rw[show HT.sIx (ls.map T).length 0 (some (1:Int))=min 1 (ls.map T).length from HT.eF _ _ 1,aR] at z1;omega
def rL (C:Addr):Sp:=fun vs H Q _=>∃ (x tp:Addr) (n:Nat) (ms:List (List Nat)) (m0:List Nat),vs=[.ref x]∧fL C H x tp n ms∧eK ms n∧ms[0]?=some m0∧∀ (H':Hp),aK H H'->Q (.int (Dt.eN (Dt.rm ms m0) (Wd.fin m0) (Wd.beg m0):Nat)) H'
theorem vE {f:Addr}{fd:FuncData}(F:Fun K "ring_count" "ring_count" jN f fd)(tt:Txt K mg ad)(C_ways_on:Cal P w K mg base (CX1 P w) "ways_on" 5 ["words", "one", "other"] (nU K))(C_end_of:Cal P w K mg base (CX1 P w) "end_of" 1 ["word"] nM)(C_begin_of:Cal P w K mg base (CX1 P w) "begin_of" 1 ["word"] gJ):bW P w K mg base (CX1 P w) 6 f fd ["web"] (rL ad.Web):=by
 refine F.okN lV (fun vs H Q E h=>?_) (fun cdv A outer s H vs Q E hr h=>?_)
 ·obtain⟨x,tp,n,ms,m0,rfl,_⟩:=h
  rfl
 ·obtain⟨x,tp,n,ms,m0,rfl,hW,hok,hm0,q⟩:=h
  have hs:sizeLine=16777216:=sizeLine_eq;obtain⟨⟨dx,hx⟩,htp⟩:=id hW;obtain⟨hne,h64,hn,hxs,hnd⟩:=id hok;have hm0m:=au hm0;have hm0l:=(hxs m0 hm0m).1;obtain⟨hd0,hdr⟩:=yR hnd hm0;have hpos:=cn.mpr hne;refine⟨_,(aB (aI (i:=1) lV.nd rfl (Or.inl rfl) (cL mU (fN (pv 0) rfl) aG (fun _ _=>rfl)))
   (aE (aV (aJ C_ways_on hr aS (aA (bA Pm (fN (pv 0) rfl) (bJ aG) bN) (aA (aJ C_end_of hr aS (aA (pv 1) aC)) (aA (aJ C_begin_of hr aS (aA (pv 1) aC)) aC))))))),?_⟩
  (try rw[cP]);(try rw[cxK1])
  refine⟨_,rfl,x,ad.Web,dx,_,_,rfl,hx,tt.cl_Web,tt.na_Web_words,fO _ _,tp,_,_,_,rfl,rfl,SqT.of htp,bO (j:=0) (by rw[ah,hm0];rfl),?_⟩;refine⟨_,rfl,x,ad.Web,dx,_,_,rfl,hx,tt.cl_Web,tt.na_Web_words,fO _ _,_,rfl,tp,_,rfl,SqT.of htp,Ii hpos,fun p1 hp1=>?_⟩;rw[show dE (ms.map T) (some (1:Int)) none=(ms.drop 1).map T from xB (k:=1) hpos,hdr];have s1:=aH (o:=.tup ((Dt.rm ms m0).map T)) hp1;refine⟨_,rfl,m0,rfl,⟨by omega,by omega⟩,_,rfl,m0,rfl,⟨by omega,by omega⟩,p1,Dt.rm ms m0,Wd.fin m0,Wd.beg m0,rfl,.inr (SqT.of aD),⟨Dt.dH hnd,av (cq ..) h64,fun y hy=>by have:=(hxs y (Dt.dY.mp hy).1).1;omega⟩,fun G2 s2=>q G2 (s1.trans s2)⟩
def Ap (C:Addr)(ad:Adr):Sp:=fun vs H Q E=>∃ (x tp:Addr) (n:Nat) (ms:List (List Nat)) (m0:List Nat) (k:Int),vs=[.ref x,.int k]∧fL C H x tp n ms∧eK ms n∧ms[0]?=some m0∧(¬ (0<=k∧k<((Dt.eN (Dt.rm ms m0) (Wd.fin m0) (Wd.beg m0):Nat):Int))->∀ (H':Hp),aK H H'->E (.ref ad.NoSuch) none H') ∧
 (∀ (j:Nat) (us:List (List Nat)),k=(j:Int)->(Dt.cH (Dt.rm ms m0).length (Dt.rm ms m0) (Wd.fin m0) (Wd.beg m0))[j]?=some us->∀ (H':Hp),aK H H'->Q (T (Dt.rT m0 us)) H')
theorem Fp {f:Addr}{fd:FuncData}(F:Fun K "ring_by" "ring_by" pK f fd)(tt:Txt K mg ad)(C_ring_count:Cal P w K mg base (CX1 P w) "ring_count" 6 ["web"] (rL ad.Web))(C_way_by:Cal P w K mg base (CX1 P w) "way_by" 6 ["words", "one", "other", "number"] (xV K))(C_end_of:Cal P w K mg base (CX1 P w) "end_of" 1 ["word"] nM)(C_begin_of:Cal P w K mg base (CX1 P w) "begin_of" 1 ["word"] gJ) :
  bW P w K mg base (CX1 P w) 7 f fd ["web", "number"] (Ap ad.Web ad):=by
 refine F.okX mG (fun vs H Q E h=>?_) (fun cdv A outer s H vs Q E hr h=>?_)
 ·obtain⟨x,tp,n,ms,m0,k,rfl,_⟩:=h
  rfl
 ·obtain⟨x,tp,n,ms,m0,k,rfl,hW,hok,hm0,xn,q⟩:=h
  have hs:sizeLine=16777216:=sizeLine_eq;obtain⟨⟨dx,hx⟩,htp⟩:=id hW;obtain⟨hne,h64,hn,hxs,hnd⟩:=id hok;have hm0m:=au hm0;have hm0l:=(hxs m0 hm0m).1;obtain⟨hd0,hdr⟩:=yR hnd hm0;have hpos:=cn.mpr hne;refine⟨_,(aB (bS (PW.pt (uS (aP kZ (pv 1) aG (aW _)) (mS (aP Py (pv 1) (aJ C_ring_count hr aS (aA (pv 0) aC)) (aW _))))) (aE (dS (E:=fun cls H'=>E cls none H') tt.x_NoSuch rfl (fun _ _ _ _ _ _ _ I hx q=>gF I hx q) (aA (bT [116,104,101,32,119,101,98,32,104,97,115,32,110,111,32,114,105,110,103,32,111,102,32,116,104,105,115,32,110,117,109,98,101,114] (by decide +kernel)) aC))) aY)
   (aB (aI (i:=2) mG.nd rfl (Or.inl rfl) (cL mU (fN (pv 0) rfl) aG (fun _ _=>rfl)))
   (aB (aI (i:=3) mG.nd rfl (Or.inl rfl) (aQ gB (cL Kf (pv 2) aG (fun _ _=>rfl)) (aJ C_way_by hr aS (aA (bA Pm (fN (pv 0) rfl) (bJ aG) bN) (aA (aJ C_end_of hr aS (aA (pv 2) aC)) (aA (aJ C_begin_of hr aS (aA (pv 2) aC)) (aA (pv 1) aC)))))))
   (aE (aV (bA lR (pv 3) bN (bJ (aL aN (by rfl) tt.b_len a0 (aA (fN (pv 0) rfl) aC))))))))),?_⟩
  (try rw[cP]);(try rw[cxK1])
  refine⟨_,rfl,_,_,rfl,rfl,_,rfl,?_⟩;by_cases hk0:k<0
  ·refine itP (decide_eq_true hk0) ?_
   refine itP rfl ?_;exact⟨(by show 1<=sizeLine;omega),xn (fun z=>by omega) H (aK.refl _)⟩
  ·refine itN (fun z=>hk0 (of_decide_eq_true z)) ?_
   refine⟨_,rfl,_,rfl,x,tp,n,ms,m0,rfl,hW,hok,hm0,fun G1 s1=>?_⟩;refine⟨_,_,rfl,rfl,_,rfl,?_⟩;by_cases hk1:k≥((Dt.eN (Dt.rm ms m0) (Wd.fin m0) (Wd.beg m0):Nat):Int)
   ·refine itP (decide_eq_true hk1) ?_
    exact⟨(by show 1<=sizeLine;omega),xn (fun z=>by omega) G1 s1⟩
   ·refine itN (fun z=>hk1 (of_decide_eq_true z)) ?_
    obtain⟨j,hj⟩:∃ j:Nat,k=(j:Int):=⟨k.toNat,by omega⟩;subst hj;have hjl:j<(Dt.cH (Dt.rm ms m0).length (Dt.rm ms m0) (Wd.fin m0) (Wd.beg m0)).length:=by
     have:j<Dt.eN (Dt.rm ms m0) (Wd.fin m0) (Wd.beg m0):=by omega
     exact this
    obtain⟨us,hus⟩:∃ us,(Dt.cH (Dt.rm ms m0).length (Dt.rm ms m0) (Wd.fin m0) (Wd.beg m0))[j]?=some us:=⟨_,aa hjl⟩;have husl:=(Dt.oG (Dt.dH hnd) hus).1.length_eq;have hrl:=Dt.dQ hnd hm0m;have hxG:=s1 x _ hx;have htG:=s1 tp _ htp;refine⟨_,rfl,x,ad.Web,dx,_,_,rfl,hxG,tt.cl_Web,tt.na_Web_words,fO _ _,tp,_,_,_,rfl,rfl,SqT.of htG,bO (j:=0) (by rw[ah,hm0];rfl),?_⟩;obtain⟨c0,hc0⟩:∃ c0,m0[0]?=some c0:=⟨m0[0]'(by omega),aa _⟩;have hm00:m0=c0::m0.drop 1:=by
     cases m0 with
     | nil=>cases hc0
     | cons y r =>
      have:y=c0:=by simpa using hc0
      rw[this];rfl
    refine⟨_,rfl,_,rfl,_,rfl,(by omega),c0,bO (j:=0) hc0,?_⟩;refine⟨_,rfl,x,ad.Web,dx,_,_,rfl,hxG,tt.cl_Web,tt.na_Web_words,fO _ _,_,rfl,tp,_,rfl,SqT.of htG,Ii hpos,fun p1 hp1=>?_⟩;rw[show dE (ms.map T) (some (1:Int)) none=(ms.drop 1).map T from xB (k:=1) hpos,hdr];have s2:=aH (o:=.tup ((Dt.rm ms m0).map T)) hp1;refine⟨_,rfl,m0,rfl,⟨by omega,by omega⟩,_,rfl,m0,rfl,⟨by omega,by omega⟩,_,rfl,p1,Dt.rm ms m0,us,Wd.fin m0,Wd.beg m0,j,rfl,.inr (SqT.of aD),⟨Dt.dH hnd,av (cq ..) h64,by show (m0.drop 1).length<=1000;rw[a9];omega,fun y hy=>by have:=(hxs y (Dt.dY.mp hy).1).1;omega⟩,hus,fun G2 s3=>?_⟩;have hfl:(Wd.fin m0++us.map Wd.bU).length=n-1+us.length:=by rw[ak,aR];show (m0.drop 1).length+_=_;rw[a9];omega
    refine⟨_,rfl,_,rfl,(by show 1+_<=sizeLine;omega),?_⟩;have sG2:=s1.trans (s2.trans s3);refine⟨_,rfl,_,rfl,x,ad.Web,dx,_,_,rfl,sG2 x _ hx,tt.cl_Web,tt.na_Web_words,fO _ _,tp,_,rfl,.inr (SqT.of (sG2 tp _ htp)),_,rfl,_,rfl,(by rw[ak];show 1+_<=sizeLine;omega),?_⟩;rw[aR];have e1:[c0]++(Wd.fin m0++us.map Wd.bU)=Wd.beg m0++(m0::us).map Wd.bU:=by
     rw[<- c6,ap,show [c0]++Wd.fin m0=m0 from hm00.symm]
     conv=>lhs;rw[Wd.rB (w:=m0) (by omega)]
     rw[c6];rfl
    rw[e1,show fP (Wd.beg m0++(m0::us).map Wd.bU) none (some ((ms.length:Nat):Int))=(Wd.beg m0++(m0::us).map Wd.bU).take ms.length from Fw (by rw[ak,aR,aq];omega),show ms.length=us.length+1 by omega];exact q j us rfl hus G2 sG2
def IsP (ms:List (List Nat))(z:List Nat):Prop:=∃ w∈ms,z=beg w∨z=w.drop 1
theorem Ll {k:Nat}{ls ps:List (List Nat)}{p:List Nat}(h:rS k ls)(hn:ps.Nodup)(hm:∀ z∈ps,z=p∨IsP ls z):ps.length<=k+1:=by
 obtain⟨qs,h1,h2⟩:=h
 have:=Hg.kI (ms:=p::qs) hn fun z hz=>by
  rcases hm z hz with rfl | ⟨w,hw,rfl | rfl⟩
  ·exact al ..
  ·exact aj _ (h2 w hw).1
  ·exact aj _ (h2 w hw).2
 rw[aq] at this;omega
theorem Uj {ls ps:List (List Nat)}{p:List Nat}(h:Few ls)(hn:ps.Nodup)(hm:∀ z∈ps,z=p∨IsP ls z):ps.length<64:=by
 have:=Ll h hn hm
 omega
def hZ (C:Addr):Sp:=fun vs H Q _=>∃ (x tp:Addr) (n:Nat) (ms:List (List Nat)),vs=[.ref x]∧fL C H x tp n ms∧eK ms n ∧
 ∀ (D:Addr) (ps:List (List Nat)) (H':Hp),H D=none->aK H H'->H' D=some (.lst (ps.map T))->ps.Pairwise (fun a b=>¬ b<a)->ps.Nodup->(∀ z,z∈ps↔IsP ms z)->Q (.ref D) H'
theorem Ju {f:Addr}{fd:FuncData}(F:Fun K "pieces" "pieces" lB f fd)(tt:Txt K mg ad)(C_begin_of:Cal P w K mg base (CX1 P w) "begin_of" 1 ["word"] gJ)(C_end_of:Cal P w K mg base (CX1 P w) "end_of" 1 ["word"] nM) :
  bW P w K mg base (CX1 P w) 2 f fd ["web"] (hZ ad.Web):=by
 refine F.okN Ku (fun vs H Q E h=>?_) (fun cdv A outer s H vs Q E hr h=>?_)
 ·obtain⟨x,tp,n,ms,rfl,_⟩:=h
  rfl
 ·obtain⟨x,tp,n,ms,rfl,hW,hok,q⟩:=h
  have hs:sizeLine=16777216:=sizeLine_eq;obtain⟨⟨dx,hx⟩,htp⟩:=id hW;obtain⟨hne,h64,hn,hxs,hnd⟩:=id hok;have ulen:∀ ls:List (List Nat),(uniq ls).length<=ls.length:=fun ls=>lK ls _
  refine⟨_,(aE (aV (aL (lX rfl) (by rfl) tt.b_sorted di (aA (aQ Wb (dU (oU rfl) (by rfl) tt.b_set (by decide +kernel) (aA (cV Au rfl (oM (fN (pv 0) rfl)) (fun cl C s' H' fp=>(aJ C_begin_of hr aS (aA (pv 0) aC)))) aC)) (dU (oU rfl) (by rfl) tt.b_set (by decide +kernel) (aA (cV Ck rfl (oM (fN (pv 0) rfl)) (fun cl C s' H' fp=>(aJ C_end_of hr aS (aA (pv 0) aC)))) aC))) aC)))),?_⟩
  (try rw[cP]);(try rw[cxK1])
  refine⟨_,rfl,x,ad.Web,dx,_,_,rfl,hx,tt.cl_Web,tt.na_Web_words,fO _ _,tp,rfl,⟨_,SqT.of htp⟩,?_⟩;refine iJ (fun v=>T (beg (unT v))) (gQ (SqT.of htp)) (by rw[aR];omega) (fun v H2 hv s2 N hN=>?_) fun D1 H2 hD1 s2 hd2=>?_
  ·obtain⟨l,hl,rfl⟩:=ao.mp hv
   have hll:=(hxs l hl).1;have z:=hN H2 (aK.refl _);rw[cS] at z;exact⟨_,rfl,l,rfl,⟨by omega,by omega⟩,z⟩
  rw[fU (f:=fun l=>T (beg l)),show ms.map (fun l=>T (beg l))=(ms.map beg).map T by rw[bj];rfl] at hd2;refine⟨D1,ms.map beg,rfl,SqL.of hd2,(by rw[aR];omega),fun S1 hS1=>?_⟩;have s3:=s2.trans (aH (o:=lQ w S1 (uniq (ms.map beg))) hS1);have hd3:upd H2 S1 (lQ w S1 (uniq (ms.map beg))) S1=some (lQ w S1 (uniq (ms.map beg))):=aD;refine⟨_,rfl,x,ad.Web,dx,_,_,rfl,s3 x _ hx,tt.cl_Web,tt.na_Web_words,fO _ _,tp,rfl,⟨_,SqT.of (s3 tp _ htp)⟩,?_⟩;refine iJ (fun v=>T ((unT v).drop 1)) (gQ (SqT.of (s3 tp _ htp))) (by rw[aR];omega) (fun v H4 hv s4 N hN=>?_) fun D2 H4 hD2 s4 hd4=>?_
  ·obtain⟨l,hl,rfl⟩:=ao.mp hv
   have hll:=(hxs l hl).1;have z:=hN H4 (aK.refl _);rw[cS] at z;exact⟨_,rfl,l,rfl,⟨by omega,by omega⟩,z⟩
  rw[fU (f:=fun l=>T (l.drop 1)),show ms.map (fun l=>T (l.drop 1))=(ms.map fun l=>l.drop 1).map T by rw[bj];rfl] at hd4;refine⟨D2,ms.map (fun l=>l.drop 1),rfl,SqL.of hd4,(by rw[aR];omega),fun S2 hS2=>?_⟩;have s5:=aH (o:=lQ w S2 (uniq (ms.map fun l=>l.drop 1))) hS2;have l1:=ulen (ms.map beg);have l2:=ulen (ms.map fun l=>l.drop 1);rw[aR] at l1 l2;have hS1':=s5 S1 _ (s4 S1 _ hd3);have ne12:S1≠S2:=fun z=>by
   have g:=s4 S1 _ hd3;rw[z,hS2] at g;cases g
  refine⟨S1,S2,_,_,rfl,rfl,ne12,hS1',aD,(fun z=>?_),(by omega),fun D5 qs hD5 hqn hql hqm=>?_⟩
  ·obtain⟨m0,hm0⟩:∃ m0,m0∈ms:=ii _ hne
   have:beg m0∈uniq (ms.map beg):=(gA _ _).mpr (gg hm0)
   rw[z] at this;cases this
  have s6:=aH (o:=lQ w D5 qs) hD5;refine⟨D5,qs,rfl,aD,(Uj (p:=[]) hok.2.2.1.2 hqn fun z hz=>.inr ?few),fun ps D6 hD6 hp6 hw6=>?_⟩
  case few =>
   rw[hqm,gA,gA,ao,ao] at hz;rcases hz with ⟨l,hl,rfl⟩ | ⟨l,hl,rfl⟩
   ·exact⟨l,hl,.inl rfl⟩
   ·exact⟨l,hl,.inr rfl⟩
  have s7:=aH (o:=.lst (ps.map T)) hD6;have sall:=s3.trans (s4.trans (s5.trans (s6.trans s7)));have hD6':H D6=none:=by
   cases e:H D6 with
   | none=>rfl
   | some o =>
    have g:=(s3.trans (s4.trans (s5.trans s6))) D6 o e;exact absurd (g.symm.trans hD6) (fun z=>nomatch z)
  refine q D6 ps _ hD6' sall aD hw6 (hp6.nodup_iff.mpr hqn) fun z=>?_
  rw[hp6.mem_iff,hqm,gA,gA,ao,ao];constructor
  ·rintro (⟨l,hl,rfl⟩ | ⟨l,hl,rfl⟩)
   ·exact⟨l,hl,.inl rfl⟩
   ·exact⟨l,hl,.inr rfl⟩
  ·rintro⟨l,hl,rfl | rfl⟩
   ·exact .inl ⟨l,hl,rfl⟩
   ·exact .inr ⟨l,hl,rfl⟩
def Ad (ms:List (List Nat))(p:List Nat):List (List Nat):=ms.filter fun l=>decide (beg l=p)
def Qi (C:Addr):Sp:=fun vs H Q _=>∃ (x tp:Addr) (n:Nat) (ms:List (List Nat)) (p:List Nat),vs=[.ref x,T p]∧fL C H x tp n ms∧eK ms n∧∀ D H',H D=none->aK H H'->H' D=some (.lst ((Ad ms p).map T))->Q (.ref D) H'
theorem Ui {f:Addr}{fd:FuncData}(F:Fun K "outs" "outs" xU f fd)(tt:Txt K mg ad)(C_begin_of:Cal P w K mg base (CX1 P w) "begin_of" 1 ["word"] gJ):bW P w K mg base (CX1 P w) 2 f fd ["web", "piece"] (Qi ad.Web):=by
 refine F.okN Te (fun vs H Q E h=>?_) (fun cdv A outer s H vs Q E hr h=>?_)
 ·obtain⟨x,tp,n,ms,p,rfl,_⟩:=h
  rfl
 ·obtain⟨x,tp,n,ms,p,rfl,hW,hok,q⟩:=h
  have hs:sizeLine=16777216:=sizeLine_eq;obtain⟨⟨dx,hx⟩,htp⟩:=id hW;obtain⟨hne,h64,⟨hn,hfew⟩,hxs,hnd⟩:=id hok;refine⟨_,(aE (aV (rY Ko rfl (oM (fN (pv 0) rfl)) (fun cl C s' H' fp=>(aP mZ (aJ C_begin_of hr aS (aA (pv 0) aC)) (pv 2) (aW _))) (fun cl C s' H' fp=>(pv 0))))),?_⟩
  (try rw[cP]);(try rw[cxK1])
  refine⟨_,rfl,x,ad.Web,dx,_,_,rfl,hx,tt.cl_Web,tt.na_Web_words,fO _ _,tp,rfl,⟨_,SqT.of htp⟩,?_⟩;refine gZ (fun v=>decide (beg (unT v)=p)) (fun v=>v) (gQ (SqT.of htp)) (by rw[aR];omega) (fun v H2 hv s2 N hN=>?_) (fun v H2 hv hp s2 N hN=>?_) fun D1 H2 hD1 s2 hd2=>?_
  ·obtain⟨l,hl,rfl⟩:=ao.mp hv
   have hll:=hxs l hl;have z:=hN H2 (aK.refl _);rw[cS] at z;exact⟨_,rfl,l,rfl,⟨by omega,by omega⟩,_,rfl,_,rfl,_,rfl,_,rfl,z⟩
  ·exact⟨_,rfl,hN H2 (aK.refl _)⟩
  rw[show (ms.map T).filter (fun v=>decide (beg (unT v)=p))=(ms.filter fun l=>decide (beg l=p)).map T from cO (p:=fun l=>decide (beg l=p)) ms,ml] at hd2;exact q D1 H2 hD1 s2 hd2
def exc (ms so:List (List Nat)):Int:=((ms.filter fun l=>decide (beg l∈so)).length:Int)-((ms.filter fun l=>decide (l.drop 1∈so)).length:Int)
def nA (K:ae)(C:Addr):Sp:=fun vs H Q _=>∃ (x tp b:Addr) (n:Nat) (ms so:List (List Nat)),vs=[.ref x,.ref b]∧fL C H x tp n ms∧eK ms n∧Sq K H b (so.map T)∧∀ (H':Hp),aK H H'->Q (.int (exc ms so)) H'
theorem Ip {f:Addr}{fd:FuncData}(F:Fun K "excess" "excess" kK f fd)(tt:Txt K mg ad)(C_begin_of:Cal P w K mg base (CX1 P w) "begin_of" 1 ["word"] gJ)(C_end_of:Cal P w K mg base (CX1 P w) "end_of" 1 ["word"] nM) :
  bW P w K mg base (CX1 P w) 2 f fd ["web", "some"] (nA K ad.Web):=by
 refine F.okN pR (fun vs H Q E h=>?_) (fun cdv A outer s H vs Q E hr h=>?_)
 ·obtain⟨x,tp,b,n,ms,so,rfl,_⟩:=h
  rfl
 ·obtain⟨x,tp,b,n,ms,so,rfl,hW,hok,hB,q⟩:=h
  have hs:sizeLine=16777216:=sizeLine_eq;obtain⟨⟨dx,hx⟩,htp⟩:=id hW;obtain⟨hne,h64,hn,hxs,hnd⟩:=id hok;refine⟨_,(aB (dF (i:=2) Cr rfl (oM (fN (pv 0) rfl)) (fun cl C s' H' fp=>(aP (sH K rfl) (aJ C_begin_of hr aS (aA (pv 0) aC)) (pv 2) (by with_unfolding_all rfl))) (fun cl C s' H' fp=>(pv 0)) pR.nd rfl rfl)
   (aB (dF (i:=3) Cp rfl (oM (fN (pv 0) rfl)) (fun cl C s' H' fp=>(aP (sH K rfl) (aJ C_end_of hr aS (aA (pv 0) aC)) (pv 2) (by with_unfolding_all rfl))) (fun cl C s' H' fp=>(pv 0)) pR.nd rfl rfl)
   (aE (aV (aQ eR (aL aN (by rfl) tt.b_len a0 (aA (pv 2) aC)) (aL aN (by rfl) tt.b_len a0 (aA (pv 3) aC))))))),?_⟩
  (try rw[cP]);(try rw[cxK1])
  refine⟨_,rfl,x,ad.Web,dx,_,_,rfl,hx,tt.cl_Web,tt.na_Web_words,fO _ _,tp,rfl,⟨_,SqT.of htp⟩,?_⟩;refine gZ (fun v=>decide (beg (unT v)∈so)) (fun v=>v) (gQ (SqT.of htp)) (by rw[aR];omega) (fun v H2 hv s2 N hN=>?_) (fun v H2 hv hp s2 N hN=>?_) fun D1 H2 hD1 s2 hd2=>?_
  ·obtain⟨l,hl,rfl⟩:=ao.mp hv
   have hll:=(hxs l hl).1;have z:=hN H2 (aK.refl _);rw[cS] at z;refine⟨_,rfl,l,rfl,⟨by omega,by omega⟩,_,rfl,b,_,rfl,hB.on s2,rfl,hU so,_,rfl,?_⟩;show N (inV (T (beg l)) (so.map T)) H2;rw[uT];exact z
  ·exact⟨_,rfl,hN H2 (aK.refl _)⟩
  rw[show (ms.map T).filter (fun v=>decide (beg (unT v)∈so))=(ms.filter fun l=>decide (beg l∈so)).map T from cO (p:=fun l=>decide (beg l∈so)) ms,kO] at hd2;refine⟨_,rfl,x,ad.Web,dx,_,_,rfl,s2 x _ hx,tt.cl_Web,tt.na_Web_words,fO _ _,tp,rfl,⟨_,SqT.of (s2 tp _ htp)⟩,?_⟩;refine gZ (fun v=>decide ((unT v).drop 1∈so)) (fun v=>v) (gQ (SqT.of (s2 tp _ htp))) (by rw[aR];omega) (fun v H3 hv s3 N hN=>?_) (fun v H3 hv hp s3 N hN=>?_) fun D2 H3 hD2 s3 hd3=>?_
  ·obtain⟨l,hl,rfl⟩:=ao.mp hv
   have hll:=(hxs l hl).1;have z:=hN H3 (aK.refl _);rw[cS] at z;refine⟨_,rfl,l,rfl,⟨by omega,by omega⟩,_,rfl,b,_,rfl,(hB.on s2).on s3,rfl,hU so,_,rfl,?_⟩;show N (inV (T (l.drop 1)) (so.map T)) H3;rw[uT];exact z
  ·exact⟨_,rfl,hN H3 (aK.refl _)⟩
  rw[show (ms.map T).filter (fun v=>decide ((unT v).drop 1∈so))=(ms.filter fun l=>decide (l.drop 1∈so)).map T from cO (p:=fun l=>decide (l.drop 1∈so)) ms,kO] at hd3;refine⟨_,rfl,D1,_,rfl,.inl (SqL.of (s3 D1 _ hd2)),_,rfl,D2,_,rfl,.inl (SqL.of hd3),_,_,rfl,rfl,?_⟩;rw[aR,aR];exact q H3 (s2.trans s3)
abbrev En (l:List Nat):List Nat:=l.drop 1
abbrev Rc (ms:List (List Nat))(p z:List Nat):Prop:=Hg.Rch beg En ms p z
theorem Id {t:List Nat}{v:V}:∀ {ls:List (List Nat)},eC (tKs ls v) (b9 (tx t))=if t∈ls then some v else none
 | []=>by simp[tKs,eC]
 | l::ls=>by
  have ih:=@Id t v ls;unfold tKs eC at ih ⊢;rw[ap,ik];by_cases e:l=t
  ·subst e
   simp
  ·have e2:¬ (b9 (tx l):Key)=b9 (tx t):=fun z=>e (eX (il z))
   have e3:¬ t=l:=fun z=>e z.symm
   simp only [e2,decide_false,ar,e3,false_or];exact ih
theorem rE {t:List Nat}{v:V}{ls:List (List Nat)}:eV (tKs ls v) (b9 (tx t)) v=tKs (Hg.pE ls t) v:=by
 have e:((tKs ls v).any fun kv=>decide (kv.1=b9 (tx t)))=decide (t∈ls):=by
  rw[c9,oj,decide_eq_true_iff];constructor
  ·rintro⟨kv,h1,h2⟩
   obtain⟨l,hl,rfl⟩:=ao.mp h1
   have:=eX (il (of_decide_eq_true h2))
   exact this▸hl
  ·exact fun h=>⟨_,gg h,decide_eq_true rfl⟩
 unfold eV Hg.pE;rw[e];by_cases h:t∈ls
 ·rw[if_pos (decide_eq_true h),if_pos h]
  conv=>rhs;rw[<- iw (tKs ls v)]
  refine ay fun kv hkv=>?_
  obtain⟨l,_,rfl⟩:=ao.mp hkv;split
  ·rfl
  ·rfl
 ·rw[if_neg (by rw[decide_eq_false h];exact am),if_neg h]
  unfold tKs;rw[bc];rfl
theorem Lx (ls:List (List Nat))(v:V):(tKs ls v).map (·.1)=ls.map fun t=>b9 (tx t):=by
 unfold tKs;rw[bj];rfl
theorem lN (ls:List (List Nat))(v:V):(tKs ls v).length=ls.length:=by unfold tKs;rw[aR]
theorem aAB {ms:List (List Nat)}{p z:List Nat}(h:Rc ms p z):z=p∨IsP ms z:=by
 rcases Hg.Ed h with rfl | g
 ·exact .inl rfl
 ·rcases bu.mp g with g | g
  ·obtain⟨l,hl,e⟩:=ao.mp g
   exact .inr ⟨l,hl,.inl e.symm⟩
  ·obtain⟨l,hl,e⟩:=ao.mp g
   exact .inr ⟨l,hl,.inr e.symm⟩
def Ut (K:ae):Sp:=fun vs H Q _=>∃ (a:Addr) (ms:List (List Nat)) (p:List Nat),vs=[.ref a,T p]∧SqT K H a (ms.map T)∧(ms.length<=64∧∀ x∈ms,1<=x.length∧x.length<=1000) ∧
 ∀ (D:Addr) (H':Hp) (ls:List (List Nat)),H D=none->aK H H'->H' D=some (.dK (tKs ls (.bl true)))->ls.Nodup->(∀ z,z∈ls↔Rc ms p z)->Q (.ref D) H'
theorem vF {f:Addr}{fd:FuncData}(F:Fun K "hanging_by" "hanging_by" jO f fd)(tt:Txt K mg ad)(C_begin_of:Cal P w K mg base (CX1 P w) "begin_of" 1 ["word"] gJ)(C_end_of:Cal P w K mg base (CX1 P w) "end_of" 1 ["word"] nM) :
  bW P w K mg base (CX1 P w) 2 f fd ["words", "piece"] (Ut K):=by
 refine F.okN eM (fun vs H Q E h=>?_) (fun cdv A outer s H vs Q E hr h=>?_)
 ·obtain⟨a,ms,p,rfl,_⟩:=h
  rfl
 ·obtain⟨a,ms,p,rfl,hS,⟨h64,hxl⟩,q⟩:=h
  have hs:sizeLine=16777216:=sizeLine_eq;refine⟨_,(aB (aI (i:=2) eM.nd rfl (Or.inl rfl) (Ta (Rf (pv 1) pZ Rz) rfl rfl (fun z=>nomatch z) (by decide)))
   (aB (aI (i:=3) eM.nd rfl (Or.inl rfl) aG)
   (aB (iX PassesOwn.never (aP kZ (pv 3) (aL vX (by rfl) tt.b_len a0 (aA (pv 2) aC)) (aW _)) (aB (aI (i:=3) eM.nd rfl (Or.inl rfl) (aL vX (by rfl) tt.b_len a0 (aA (pv 2) aC)))
   (aE (cM PassesOwn.never rfl (oM (pv 0)) (bK (i:=4) eM.nd rfl (Or.inl rfl)) (aE (bS (PW.pt (uS (kU (Qq (fW hr) (aJ C_begin_of hr aS (aA (pv 4) aC)) (pv 2))) (mS (kU (Qq (fW hr) (aJ C_end_of hr aS (aA (pv 4) aC)) (pv 2)))))) (aB (rG (fW hr) (pv 2) (aJ C_begin_of hr aS (aA (pv 4) aC)) pZ rfl)
   (aE (rG (fW hr) (pv 2) (aJ C_end_of hr aS (aA (pv 4) aC)) pZ rfl))) aY))))))
   (aE (aV (pv 2)))))),?_⟩
  (try rw[cP]);(try rw[cxK1])
  intro D hD;refine⟨_,rfl,aD,[(b9 (tx p),.bl true)],rfl,(by show 1<=15;decide),?_⟩;have sD:aK H (upd H D (.dK (tKs [p] (.bl true)))):=aH hD;have e1:upd (upd H D (.dK [])) D (.dK (oV [] [(b9 (tx p),.bl true)]))=upd H D (.dK (tKs [p] (.bl true))):=by
   rw[Hu];rfl
  rw[e1];refine⟨fun m σ H2=>∃ (fs:List (List Nat)) (kn:Nat) (v4:Option V),m=2*ms.length+2-kn∧aK H H2∧H2 D=some (.dK (tKs fs (.bl true)))∧fs.Nodup∧p∈fs∧(∀ z∈fs,Rc ms p z)∧kn<=fs.length∧(kn=fs.length->∀ x∈ms,Hg.Cl beg En fs x)∧σ=[some (.ref a),some (T p),some (.ref D),some (.int (kn:Nat)),v4],
   ⟨_,[p],0,none,rfl,sD,aD,by simp,by simp,(fun z hz=>by rw[a7.mp hz];exact .self),b6 _,(fun z=>nomatch z),rfl⟩,?_⟩
  rintro m σ H2 ⟨fs,kn,v4,hm,s2,hd2,hnd,hp,hrc,hkn,hcl,rfl⟩;have hfl:=Hg.Lm hnd hrc;refine⟨_,rfl,_,rfl,D,_,rfl,hd2,_,_,rfl,rfl,_,rfl,?_⟩;rw[lN];refine fZ (fun h0=>?_) (fun h0=>?_)
  ·have h0':kn<fs.length:=by have:=of_decide_eq_true h0;omega
   refine⟨fun σ' H'=>∃ m'<m,∃ (fs:List (List Nat)) (kn:Nat) (v4:Option V),m'=2*ms.length+2-kn∧aK H H'∧H' D=some (.dK (tKs fs (.bl true)))∧fs.Nodup∧p∈fs∧(∀ z∈fs,Rc ms p z)∧kn<=fs.length∧(kn=fs.length->∀ x∈ms,Hg.Cl beg En fs x)∧σ'=[some (.ref a),some (T p),some (.ref D),some (.int (kn:Nat)),v4],fun σ' H' z=>z,?_⟩;refine⟨_,rfl,D,_,rfl,hd2,?_⟩;rw[lN];refine⟨_,rfl,a,rfl,⟨_,qD s2 hS⟩,?_⟩;refine Sr (K:=K) (a:=a) (xs:=ms.map T) (fun i σ H3=>aK H H3∧∃ (ls:List (List Nat)) (v4:Option V),H3 D=some (.dK (tKs ls (.bl true)))∧Hg.Pass beg En ms p fs i ls∧σ=[some (.ref a),some (T p),some (.ref D),some (.int (fs.length:Nat)),v4]) ⟨s2,fs,v4,hd2,.zero hnd hrc,rfl⟩ (fun i σ H3 _ h=>qD h.1 hS) ?_ ?_
   ·rintro i y σ H3 hi ⟨s3,ls,v4,hd3,hps,rfl⟩
    obtain⟨x,hx,rfl⟩:∃ x,ms[i]?=some x∧T x=y:=by rw[ah] at hi;exact ba.mp hi
    have hxx:=hxl x (au hx);have hdx:∀ t:List Nat,lS H3 D (T t) (if t∈ls then some (.bl true) else none):=fun t=>by have g:=lS.k (k:=b9 (tx t)) hd3;rwa [Id] at g
    have l3:=Hg.Lm hps.nd hps.rch;have sameD:∀ {G:Hp} {o1 o2:HO},aK H G->aK H (upd (upd G D o1) D o2):=fun sg b o e=>by
     rw[aM (aO e hD),aM (aO e hD)];exact sg b o e
    refine⟨_,rfl,x,rfl,hxx,_,rfl,D,_,rfl,hdx _,_,rfl,?_⟩;by_cases hb:beg x∈ls
    ·refine itP (by show (if beg x∈ls then some (V.bl true) else none).isSome=true;rw[if_pos hb];rfl) ?_
     refine⟨_,rfl,_,rfl,x,rfl,hxx,D,_,rfl,rV.k (k:=b9 (tx (beg x))) hd3 (by rw[lN];omega),?_⟩;rw[rE];refine⟨_,rfl,_,rfl,x,rfl,hxx,D,_,rfl,rV.k (k:=b9 (tx (En x))) aD (by rw[lN];have:=Hg.Bv ls (beg x);omega),?_⟩;rw[rE];exact⟨sameD s3,_,some (T x),aD,hps.yes hx (.inl hb),rfl⟩
    ·refine itN (by show ¬ (if beg x∈ls then some (V.bl true) else none).isSome=true;rw[if_neg hb];exact am) ?_
     refine⟨_,rfl,x,rfl,hxx,_,rfl,D,_,rfl,hdx _,_,rfl,?_⟩;by_cases he:En x∈ls
     ·refine itP (by show (if En x∈ls then some (V.bl true) else none).isSome=true;rw[if_pos he];rfl) ?_
      refine⟨_,rfl,_,rfl,x,rfl,hxx,D,_,rfl,rV.k (k:=b9 (tx (beg x))) hd3 (by rw[lN];omega),?_⟩;rw[rE];refine⟨_,rfl,_,rfl,x,rfl,hxx,D,_,rfl,rV.k (k:=b9 (tx (En x))) aD (by rw[lN];have:=Hg.Bv ls (beg x);omega),?_⟩;rw[rE];exact⟨sameD s3,_,some (T x),aD,hps.yes hx (.inr he),rfl⟩
     ·refine itN (by show ¬ (if En x∈ls then some (V.bl true) else none).isSome=true;rw[if_neg he];exact am) ?_
      exact⟨s3,ls,some (T x),hd3,hps.no hx hb he,rfl⟩
   ·rintro σ H3 ⟨s3,ls,v4,hd3,hps,rfl⟩
    have l1:=hps.pre.length_le;refine⟨_,?_,ls,fs.length,v4,rfl,s3,hd3,hps.nd,hps.pre.subset hp,hps.rch,l1,(fun e x hx=>?_),rfl⟩
    ·omega
    ·have hc:=hps.cl e.symm x (by rw[aR,cf];exact hx)
     rwa [hps.pre.eq_of_length e] at hc
  ·have h0':kn=fs.length:=by have z:¬ ((kn:Int)<(fs.length:Int)):=fun z=>h0 (decide_eq_true z);omega
   exact⟨_,rfl,q D H2 fs hD s2 hd2 hnd fun z=>⟨hrc z,fun hz=>hz.inside hp (hcl h0')⟩⟩
def Mv (C:Addr)(ad:Adr):Sp:=fun vs H Q E=>∃ (x tp:Addr) (n:Nat) (ms:List (List Nat)) (p:List Nat),vs=[.ref x,T p]∧fL C H x tp n ms∧eK ms n∧(¬ IsP ms p->∀ H',aK H H'->E (.ref ad.NoSuch) none H') ∧
 (IsP ms p->∀ (D:Addr) (ps:List (List Nat)) (H':Hp),H D=none->aK H H'->H' D=some (.lst (ps.map T))->ps.Pairwise (fun a b=>¬ b<a)->ps.Nodup->(∀ z,z∈ps↔Rc ms p z)->Q (.ref D) H')
theorem Jx {H G:Hp}{D:Addr}(s:aK H G)(h:G D=none):H D=none:=by
 cases e:H D with
 | none=>rfl
 | some o=>exact absurd ((s D o e).symm.trans h) (fun z=>nomatch z)
theorem Ef {f:Addr}{fd:FuncData}(F:Fun K "hanging" "hanging" oS f fd)(tt:Txt K mg ad)(C_pieces:Cal P w K mg base (CX1 P w) "pieces" 2 ["web"] (hZ ad.Web))(C_hanging_by:Cal P w K mg base (CX1 P w) "hanging_by" 2 ["words", "piece"] (Ut K)) :
  bW P w K mg base (CX1 P w) 3 f fd ["web", "piece"] (Mv ad.Web ad):=by
 refine F.okX Ff (fun vs H Q E h=>?_) (fun cdv A outer s H vs Q E hr h=>?_)
 ·obtain⟨x,tp,n,ms,p,rfl,_⟩:=h
  rfl
 ·obtain⟨x,tp,n,ms,p,rfl,hW,hok,xn,q⟩:=h
  have hs:sizeLine=16777216:=sizeLine_eq;obtain⟨⟨dx,hx⟩,htp⟩:=id hW;obtain⟨hne,h64,hn,hxs,hnd⟩:=id hok;refine⟨_,(aB (bS (aP jK (pv 1) (aJ C_pieces hr aS (aA (pv 0) aC)) (by with_unfolding_all rfl)) (aE (dS (E:=fun cls H'=>E cls none H') tt.x_NoSuch rfl (fun _ _ _ _ _ _ _ I hx q=>gF I hx q) (aA (bT [116,104,101,32,119,101,98,32,104,97,115,32,110,111,32,115,117,99,104,32,112,105,101,99,101] (by decide +kernel)) aC))) aY)
   (aE (aV (aL (vH rfl) (by rfl) tt.b_sorted di (aA (aJ C_hanging_by hr aS (aA (fN (pv 0) rfl) (aA (pv 1) aC))) aC))))),?_⟩
  (try rw[cP]);(try rw[cxK1])
  refine⟨_,rfl,_,rfl,x,tp,n,ms,rfl,hW,hok,fun D1 ps H1 hD1 s1 hd1 hpw hpn hpm=>?_⟩;refine⟨D1,_,rfl,.inl (SqL.of hd1),rfl,hU ps,_,rfl,?_⟩;by_cases hp:p∈ps
  ·refine itN (by rw[uT,decide_eq_true hp];exact am) ?_
   refine⟨_,rfl,x,ad.Web,dx,_,_,rfl,s1 x _ hx,tt.cl_Web,tt.na_Web_words,fO _ _,_,rfl,tp,ms,p,rfl,SqT.of (s1 tp _ htp),⟨by omega,fun y hy=>by have:=(hxs y hy).1;omega⟩,fun D2 H2 ls hD2 s2 hd2 hln hlm=>?_⟩;refine⟨D2,ls,_,rfl,hd2,Lx _ _,Uj hok.2.2.1.2 hln (fun z hz=>aAB ((hlm z).mp hz)),fun qs D3 hD3 hp3 hw3=>?_⟩;exact q ((hpm p).mp hp) D3 qs _ (Jx (s1.trans s2) hD3) (s1.trans (s2.trans (aH hD3))) aD hw3 (hp3.nodup_iff.mpr hln) fun z=>by rw[hp3.mem_iff,hlm]
  ·refine itP (by rw[uT,decide_eq_false hp];rfl) ?_
   exact⟨(by show 1<=sizeLine;omega),xn (fun z=>hp ((hpm p).mpr z)) H1 s1⟩
def Sj:List Nat:=[117,110,101,118,101,110]
def Wu:List Nat:=[97,112,97,114,116]
theorem rS.perm {k:Nat}{ls ms:List (List Nat)}(h:rS k ls)(p:ms.Perm ls):rS k ms:=h.sub fun w hw=>p.mem_iff.mp hw
theorem eK.perm {ls ms:List (List Nat)}{n:Nat}(h:eK ls n)(p:ms.Perm ls):eK ms n:=⟨fun z=>h.1 (bh.mp (by rw[<- p.length_eq,z];rfl)),by rw[p.length_eq];exact h.2.1,⟨h.2.2.1.1,h.2.2.1.2.perm p⟩,fun x hx=>h.2.2.2.1 x (p.mem_iff.mp hx),p.nodup_iff.mpr h.2.2.2.2⟩
theorem Pn {ls ms so:List (List Nat)}(p:ms.Perm ls):exc ms so=exc ls so:=by
 unfold exc;rw[(p.filter fun l=>decide (beg l∈so)).length_eq,(p.filter fun l=>decide (l.drop 1∈so)).length_eq]
abbrev Pap:=Option (List Nat×List (List Nat))
def Oo (H:Hp)(v:V):Pap->Prop
 | none=>v = .non
 | some (kd,so)=>∃ p b:Addr,v = .ref p∧H p=some (.tup [T kd,.ref b])∧H b=some (.tup (so.map T))
def Pcs (ms ev:List (List Nat)):Prop:=ev.Pairwise (fun a b=>¬ b<a)∧ev.Nodup∧∀ z,z∈ev↔IsP ms z
theorem Pcs.uniq {ms ls ev eu:List (List Nat)}(h:Pcs ms ev)(g:Pcs ls eu)(p:ms.Perm ls):ev=eu:=Wd.dI ((dq h.2.1 g.2.1).mpr fun z=>by rw[h.2.2,g.2.2];exact⟨fun ⟨w,h1,h2⟩=>⟨w,p.mem_iff.mp h1,h2⟩,fun ⟨w,h1,h2⟩=>⟨w,p.mem_iff.mpr h1,h2⟩⟩) h.1 g.1
def Li (ms ev:List (List Nat))(r:Pap):Prop:=∃ (z0:List Nat) (so:List (List Nat)),ev[0]?=some z0∧so.Pairwise (fun a b=>¬ b<a)∧so.Nodup∧(∀ z,z∈so↔Rc ms z0 z)∧r=if so.length=ev.length then none else some (Wu,so)
def Dh (C:Addr):Sp:=fun vs H Q _=>∃ (x tp:Addr) (n:Nat) (ms:List (List Nat)),vs=[.ref x]∧fL C H x tp n ms∧eK ms n ∧
 ∀ (ev:List (List Nat)) (r:Pap) (v:V) (H':Hp),Pcs ms ev->Li ms ev r->Oo H' v r->aK H H'->Q v H'
theorem Vo {ms ev:List (List Nat)}(h:Pcs ms ev)(hne:ms≠[]):∃ z0,ev[0]?=some z0∧IsP ms z0:=by
 obtain⟨l,hl⟩:=ii _ hne;have hm:=(h.2.2 (beg l)).mpr ⟨l,hl,.inl rfl⟩;have h0:=dl hm;exact⟨_,aa h0,(h.2.2 _).mp (cy h0)⟩
theorem xY {f:Addr}{fd:FuncData}(F:Fun K "why_apart" "why_apart" kN f fd)(tt:Txt K mg ad)(C_pieces:Cal P w K mg base (CX1 P w) "pieces" 2 ["web"] (hZ ad.Web))(C_hanging:Cal P w K mg base (CX1 P w) "hanging" 3 ["web", "piece"] (Mv ad.Web ad)) :
  bW P w K mg base (CX1 P w) 4 f fd ["web"] (Dh ad.Web):=by
 refine F.okN jS (fun vs H Q E h=>?_) (fun cdv A outer s H vs Q E hr h=>?_)
 ·obtain⟨x,tp,n,ms,rfl,_⟩:=h
  rfl
 ·obtain⟨x,tp,n,ms,rfl,hW,hok,q⟩:=h
  have hs:sizeLine=16777216:=sizeLine_eq;refine⟨_,(aB (aI (i:=1) jS.nd rfl (Or.inl rfl) (aJ C_pieces hr aS (aA (pv 0) aC)))
   (aB (aI (i:=2) jS.nd rfl (Or.inl rfl) (aJ C_hanging hr aS (aA (pv 0) (aA (cL cG (pv 1) aG (fun _ _=>rfl)) aC))))
   (aB (bS (aP dL (aL aN (by rfl) tt.b_len a0 (aA (pv 2) aC)) (aL aN (by rfl) tt.b_len a0 (aA (pv 1) aC)) (aW _)) (aE (aV Fm)) aY)
   (aE (aV (oR (aA (bT [97,112,97,114,116] (by decide +kernel)) (aA (dU iR (by rfl) tt.b_tuple (by decide +kernel) (aA (pv 2) aC)) aC)))))))),?_⟩
  (try rw[cP]);(try rw[cxK1])
  refine⟨_,rfl,x,tp,n,ms,rfl,hW,hok,fun D1 ev H1 hD1 s1 hd1 hpw hpn hpm=>?_⟩;have hpc:Pcs ms ev:=⟨hpw,hpn,hpm⟩;obtain⟨z0,hz0,hz0p⟩:=Vo hpc hok.1;refine⟨_,rfl,_,rfl,D1,_,_,_,rfl,rfl,SqL.of hd1,bO (j:=0) (by rw[ah,hz0];rfl),x,tp,n,ms,z0,rfl,hW.on s1,hok,fun z=>absurd hz0p z,fun _ D2 so H2 hD2 s2 hd2 hw2 hn2 hm2=>?_⟩;have hwy:Li ms ev (if so.length=ev.length then none else some (Wu,so)):=⟨z0,so,hz0,hw2,hn2,hm2,rfl⟩;have s12:=s1.trans s2;refine⟨_,rfl,D2,_,rfl,.inl (SqL.of hd2),_,rfl,D1,_,rfl,.inl (SqL.of (s2 D1 _ hd1)),_,rfl,_,rfl,_,rfl,?_⟩;rw[aR,aR];by_cases he:so.length=ev.length
  ·refine itP (decide_eq_true (by rw[he])) ?_
   rw[if_pos he] at hwy;exact q ev none .non H2 hpc hwy rfl s12
  ·refine itN (fun z=>he (by have:=of_decide_eq_true z;omega)) ?_
   rw[if_neg he] at hwy;refine⟨_,rfl,D2,_,rfl,.inl ⟨SqL.of hd2,fun b hb=>?_⟩⟩;have t3:=aH (o:=.tup (so.map T)) hb;refine⟨(by show 2<=sizeLine;omega),fun pp hpp=>?_⟩;have t4:=aH (o:=.tup [T Wu,.ref b]) hpp;exact q ev _ _ _ hpc hwy ⟨pp,b,rfl,aD,t4 b _ aD⟩ (s12.trans (t3.trans t4))
def Zn (ms ev:List (List Nat))(r:Pap):Prop:=(∃ z,ev.find? (fun z=>!decide (exc ms [z]=0))=some z∧r=some (Sj,[z]))∨(ev.find? (fun z=>!decide (exc ms [z]=0))=none∧Li ms ev r)
def Nj (C:Addr):Sp:=fun vs H Q _=>∃ (x tp:Addr) (n:Nat) (ms:List (List Nat)),vs=[.ref x]∧fL C H x tp n ms∧eK ms n ∧
 ∀ (ev:List (List Nat)) (r:Pap) (v:V) (H':Hp),Pcs ms ev->Zn ms ev r->Oo H' v r->aK H H'->Q v H'
theorem uC {p:List Nat->Bool}{ev:List (List Nat)}{i:Nat}{z:List Nat}(h:(ev.take i).find? p=none)(hz:ev[i]?=some z):(p z=false->(ev.take (i+1)).find? p=none)∧(p z=true->ev.find? p=some z):=by
 constructor
 ·intro hp
  rw[ca,hz,rq,h];simp[hp]
 ·intro hp
  have e:ev=ev.take i++z::ev.drop (i+1):=by
   have g:=(aw.mp hz);rw[<- g.2,<- ij g.1,ie]
  rw[e,rq,h];simp[hp]
theorem tS {f:Addr}{fd:FuncData}(F:Fun K "why_no_ring" "why_no_ring" iP f fd)(tt:Txt K mg ad)(C_pieces:Cal P w K mg base (CX1 P w) "pieces" 2 ["web"] (hZ ad.Web))(C_excess:Cal P w K mg base (CX1 P w) "excess" 2 ["web", "some"] (nA K ad.Web))(C_why_apart:Cal P w K mg base (CX1 P w) "why_apart" 4 ["web"] (Dh ad.Web)) :
  bW P w K mg base (CX1 P w) 5 f fd ["web"] (Nj ad.Web):=by
 refine F.okN kL (fun vs H Q E h=>?_) (fun cdv A outer s H vs Q E hr h=>?_)
 ·obtain⟨x,tp,n,ms,rfl,_⟩:=h
  rfl
 ·obtain⟨x,tp,n,ms,rfl,hW,hok,q⟩:=h
  have hs:sizeLine=16777216:=sizeLine_eq;refine⟨_,(aB (cM PassesOwn.never rfl (bH (aJ C_pieces hr aS (aA (pv 0) aC))) (bK (i:=1) kL.nd rfl (Or.inl rfl)) (aE (bS (aP nG (aJ C_excess hr aS (aA (pv 0) (aA (cJ (aA (pv 1) aC)) aC))) aG (aW _)) (aE (aV (oR (aA (bT [117,110,101,118,101,110] (by decide +kernel)) (aA (oR (aA (pv 1) aC)) aC))))) aY)))
   (aE (aV (aJ C_why_apart hr aS (aA (pv 0) aC))))),?_⟩
  (try rw[cP]);(try rw[cxK1])
  refine⟨_,rfl,x,tp,n,ms,rfl,hW,hok,fun D1 ev H1 hD1 s1 hd1 hpw hpn hpm=>?_⟩;have hpc:Pcs ms ev:=⟨hpw,hpn,hpm⟩;refine⟨D1,rfl,⟨_,SqL.of hd1⟩,?_⟩;refine dA (K:=K) (a:=D1) (xs:=ev.map T) (fun i σ H2=>aK H1 H2∧(ev.take i).find? (fun z=>!decide (exc ms [z]=0))=none∧∃ v1:Option V,σ=[some (.ref x),v1]) ⟨aK.refl _,rfl,none,rfl⟩ (fun i σ H2 _ h=>SqL.of (h.1 D1 _ hd1)) ?_ ?_
  ·rintro i y σ H2 hi ⟨s2,hfn,v1,rfl⟩
   obtain⟨pc,hpc',rfl⟩:∃ pc,ev[i]?=some pc∧T pc=y:=by rw[ah] at hi;exact ba.mp hi
   obtain⟨fn,fy⟩:=uC hfn hpc';refine⟨_,rfl,_,rfl,(by show 1<=sizeLine;omega),fun p3 hp3=>?_⟩;have t3:=aH (o:=.lst ([pc].map T)) hp3;refine⟨x,tp,p3,n,ms,[pc],rfl,hW.on (s1.trans (s2.trans t3)),hok,.inl (SqL.of aD),fun H4 s4=>?_⟩;refine⟨_,rfl,_,rfl,_,rfl,?_⟩;by_cases h0:exc ms [pc]=0
   ·refine itN (by rw[decide_eq_true h0];exact am) ?_
    exact⟨s2.trans (t3.trans s4),fn (by rw[decide_eq_true h0];rfl),some (T pc),rfl⟩
   ·refine itP (by rw[decide_eq_false h0];rfl) ?_
    refine⟨_,rfl,(by show 1<=sizeLine;omega),fun b hb=>?_⟩;have t5:=aH (o:=.tup ([pc].map T)) hb;refine⟨(by show 2<=sizeLine;omega),fun pp hpp=>?_⟩;have t6:=aH (o:=.tup [T Sj,.ref b]) hpp;exact q ev _ _ _ hpc (.inl ⟨pc,fy (by rw[decide_eq_false h0];rfl),rfl⟩) ⟨pp,b,rfl,aD,t6 b _ aD⟩ (s1.trans (s2.trans (t3.trans (s4.trans (t5.trans t6)))))
  ·rintro σ H2 ⟨s2,hfn,v1,rfl⟩
   rw[aR,cf] at hfn;refine⟨_,rfl,x,tp,n,ms,rfl,hW.on (s1.trans s2),hok,fun eu r v H3 hpu hr' hv s3=>?_⟩;obtain rfl:=hpu.uniq hpc (ic ms);exact q eu r v H3 hpc (.inr ⟨hfn,hr'⟩) hv (s1.trans (s2.trans s3))
theorem jJ {ls ev:List (List Nat)}(hn:ev.Nodup)(hm:∀ z∈ev,IsP ls z):ev.length<=2*ls.length:=by
 have:=Hg.kI (ms:=ls.map beg++ls.map fun l=>l.drop 1) hn fun z hz=>by
  obtain⟨l,hl,h⟩:=hm z hz;rcases h with rfl | rfl
  ·exact bu.mpr (.inl (ao.mpr ⟨l,hl,rfl⟩))
  ·exact bu.mpr (.inr (ao.mpr ⟨l,hl,rfl⟩))
 rw[ak,aR,aR] at this;omega
def abv (ms ev:List (List Nat)):List (List Nat):=ev.filter fun z=>decide (0<exc ms [z])
def Xg (ms ev:List (List Nat))(r:Pap):Prop:=(2<=exc ms (abv ms ev)∧r=some (Sj,abv ms ev))∨(exc ms (abv ms ev)<2∧Li ms ev r)
def Fo (C:Addr):Sp:=fun vs H Q _=>∃ (x tp:Addr) (n:Nat) (ms:List (List Nat)),vs=[.ref x]∧fL C H x tp n ms∧eK ms n ∧
 ∀ (ev:List (List Nat)) (r:Pap) (v:V) (H':Hp),Pcs ms ev->Xg ms ev r->Oo H' v r->aK H H'->Q v H'
theorem vJ {f:Addr}{fd:FuncData}(F:Fun K "why_no_row" "why_no_row" gL f fd)(tt:Txt K mg ad)(C_pieces:Cal P w K mg base (CX1 P w) "pieces" 2 ["web"] (hZ ad.Web))(C_excess:Cal P w K mg base (CX1 P w) "excess" 2 ["web", "some"] (nA K ad.Web))(C_why_apart:Cal P w K mg base (CX1 P w) "why_apart" 4 ["web"] (Dh ad.Web)) :
  bW P w K mg base (CX1 P w) 5 f fd ["web"] (Fo ad.Web):=by
 refine F.okN lW (fun vs H Q E h=>?_) (fun cdv A outer s H vs Q E hr h=>?_)
 ·obtain⟨x,tp,n,ms,rfl,_⟩:=h
  rfl
 ·obtain⟨x,tp,n,ms,rfl,hW,hok,q⟩:=h
  have hs:sizeLine=16777216:=sizeLine_eq;refine⟨_,(aB (dF (i:=1) qP rfl (bH (aJ C_pieces hr aS (aA (pv 0) aC))) (fun cl C s' H' fp=>(aP lY (aJ C_excess hr aS (aA (pv 1) (aA (cJ (aA (pv 0) aC)) aC))) aG (aW _))) (fun cl C s' H' fp=>(pv 0)) lW.nd rfl rfl)
   (aB (bS (aP Py (aJ C_excess hr aS (aA (pv 0) (aA (pv 1) aC))) aG (aW _)) (aE (aV (oR (aA (bT [117,110,101,118,101,110] (by decide +kernel)) (aA (dU iR (by rfl) tt.b_tuple (by decide +kernel) (aA (pv 1) aC)) aC))))) aY)
   (aE (aV (aJ C_why_apart hr aS (aA (pv 0) aC)))))),?_⟩
  (try rw[cP]);(try rw[cxK1])
  refine⟨_,rfl,x,tp,n,ms,rfl,hW,hok,fun D1 ev H1 hD1 s1 hd1 hpw hpn hpm=>?_⟩;have hpc:Pcs ms ev:=⟨hpw,hpn,hpm⟩;have hel:=jJ hpn fun z hz=>(hpm z).mp hz
  have h64:=hok.2.1;refine⟨D1,rfl,⟨_,SqL.of hd1⟩,?_⟩;refine gZ (fun v=>decide (0<exc ms [unT v])) (fun v=>v) (bC (SqL.of hd1)) (by rw[aR];omega) (fun v H2 hv s2 N hN=>?_) (fun v H2 hv hp s2 N hN=>?_) fun D2 H2 hD2 s2 hd2=>?_
  ·obtain⟨l,hl,rfl⟩:=ao.mp hv
   refine⟨_,rfl,_,rfl,(by show 1<=sizeLine;omega),fun p3 hp3=>?_⟩;have t3:=aH (o:=.lst ([l].map T)) hp3;refine⟨x,tp,p3,n,ms,[l],rfl,hW.on (s1.trans (s2.trans t3)),hok,.inl (SqL.of aD),fun H4 s4=>?_⟩;have z:=hN H4 (t3.trans s4);rw[cS] at z;exact⟨_,_,rfl,rfl,_,rfl,z⟩
  ·exact⟨_,rfl,hN H2 (aK.refl _)⟩
  rw[show (ev.map T).filter (fun v=>decide (0<exc ms [unT v]))=(abv ms ev).map T from cO (p:=fun l=>decide (0<exc ms [l])) ev,kO] at hd2;have s12:=s1.trans s2;refine⟨_,rfl,_,rfl,x,tp,D2,n,ms,abv ms ev,rfl,hW.on s12,hok,.inl (SqL.of hd2),fun H3 s3=>?_⟩;have s13:=s12.trans s3;refine⟨_,_,rfl,rfl,_,rfl,?_⟩;by_cases h2:2<=exc ms (abv ms ev)
  ·refine itP (decide_eq_true h2) ?_
   refine⟨_,rfl,D2,_,rfl,.inl ⟨SqL.of (s3 D2 _ hd2),fun b hb=>?_⟩⟩;have t5:=aH (o:=.tup ((abv ms ev).map T)) hb;refine⟨(by show 2<=sizeLine;omega),fun pp hpp=>?_⟩;have t6:=aH (o:=.tup [T Sj,.ref b]) hpp;exact q ev _ _ _ hpc (.inl ⟨h2,rfl⟩) ⟨pp,b,rfl,aD,t6 b _ aD⟩ (s13.trans (t5.trans t6))
  ·refine itN (fun z=>h2 (of_decide_eq_true z)) ?_
   refine⟨_,rfl,x,tp,n,ms,rfl,hW.on s13,hok,fun eu r v H4 hpu hr' hv s4=>?_⟩;obtain rfl:=hpu.uniq hpc (ic ms);exact q eu r v H4 hpc (.inr ⟨by omega,hr'⟩) hv (s13.trans s4)
abbrev Tr (p:List Nat)(ls:List (List Nat))(q:List Nat):Prop:=Hg.Tr beg En p ls q
theorem Em {p q:List Nat}{ls ms so:List (List Nat)}(h:Tr p ls q)(hp:ms.Perm ls):exc ms so=(if p∈so then 1 else 0)-(if q∈so then 1 else 0):=by
 rw[Pn hp]
 have:=Hg.Tr.exc (fun z=>decide (z∈so)) h
 unfold exc
 simpa using this
theorem Wj {p q:List Nat}{ls ms:List (List Nat)}(h:Tr p ls q)(hp:ms.Perm ls){z0 z:List Nat}(h0:IsP ms z0)(h1:IsP ms z):Rc ms z0 z:=by
 have key:∀ z,IsP ms z->Rc ms p z:=fun z hz=>by
  obtain⟨l,hl,g⟩:=hz
  have:=Hg.Tr.rch (ms:=ms) (p:=p) h (fun w hw=>hp.mem_iff.mpr hw) .self l (hp.mem_iff.mp hl)
  rcases g with rfl | rfl
  ·exact this.1
  ·exact this.2
 exact (key z0 h0).symm.trans (key z h1)
theorem Mp {ms:List (List Nat)}{p z:List Nat}(hp:IsP ms p)(h:Rc ms p z):IsP ms z:=by
 rcases Hg.Ed h with rfl | g
 ·exact hp
 ·rcases bu.mp g with g | g
  ·obtain⟨l,hl,e⟩:=ao.mp g
   exact⟨l,hl,.inl e.symm⟩
  ·obtain⟨l,hl,e⟩:=ao.mp g
   exact⟨l,hl,.inr e.symm⟩
theorem wI {p q:List Nat}{ls ms ev:List (List Nat)}{r:Pap}(h:Tr p ls q)(hp:ms.Perm ls)(hc:Pcs ms ev)(hw:Li ms ev r):r=none:=by
 obtain⟨z0,so,a1,a2,a3,a4,rfl⟩:=hw;have hz0:=(hc.2.2 z0).mp (au a1);rw[if_pos];refine ((dq a3 hc.2.1).mpr fun z=>?_).length_eq;rw[a4,hc.2.2];exact⟨fun g=>Mp hz0 g,fun g=>Wj h hp hz0 g⟩
theorem Kq {p:List Nat}{ls ms ev:List (List Nat)}{r:Pap}(h:Tr p ls p)(hp:ms.Perm ls)(hc:Pcs ms ev)(hw:Zn ms ev r):r=none:=by
 rcases hw with ⟨z,hz,_⟩ | ⟨_,hw⟩
 ·have:=ua hz
  rw[Em h hp,Int.sub_self] at this;exact absurd this (by decide)
 ·exact wI h hp hc hw
theorem wK {p q:List Nat}{ls ms ev:List (List Nat)}{r:Pap}(h:Tr p ls q)(hp:ms.Perm ls)(hc:Pcs ms ev)(hw:Xg ms ev r):r=none:=by
 rcases hw with ⟨g,_⟩ | ⟨_,hw⟩
 ·rw[Em h hp] at g
  split at g <;> split at g <;> omega
 ·exact wI h hp hc hw
def jA (us ms:List (List Nat))(p q:List Nat):Prop:=Hg.Tr Wd.beg Wd.fin p us q∧us.Perm ms
def Ej (C:Addr):Sp:=fun vs H Q _=>∃ (x tp:Addr) (n:Nat) (ms us:List (List Nat)) (p q:List Nat),vs=[.ref x]∧fL C H x tp n ms∧eK ms n∧jA us ms p q∧∀ (v:V) (H':Hp),aK H H'->(p=q->v = .non)->(p≠q->∃ d,v = .ref d∧H' d=some (.tup [T p,T q]))->Q v H'
theorem zM {us ms:List (List Nat)}{p q z:List Nat}(h:jA us ms p q):exc ms [z]=(if p=z then 1 else 0)-(if q=z then 1 else 0):=by
 have:=Em (so:=[z]) (show Tr p us q from h.1) h.2.symm
 rw[this];simp only [a7]
theorem rC {us ms:List (List Nat)}{p q:List Nat}(h:jA us ms p q)(hne:ms≠[]):IsP ms p∧IsP ms q:=by
 have hu:us≠[]:=fun z=>hne (nk.mp (z▸h.2).symm)
 constructor
 ·cases us with
  | nil=>exact absurd rfl hu
  | cons w us=>exact⟨w,h.2.mem_iff.mp (al ..),.inl h.1.1.symm⟩
 ·have e:=Wd.Tr.lst h.1 hu
  have hm:Wd.lst us∈us:=by
   unfold Wd.lst;have h0:=cn.mpr hu;rw[ai,aa (by omega)];exact cy (by omega)
  exact⟨_,h.2.mem_iff.mp hm,.inr e⟩
theorem Am {f:Addr}{fd:FuncData}(F:Fun K "row_ends" "row_ends" gS f fd)(tt:Txt K mg ad)(C_why_no_row:Cal P w K mg base (CX1 P w) "why_no_row" 5 ["web"] (Fo ad.Web))(C_why_no_ring:Cal P w K mg base (CX1 P w) "why_no_ring" 5 ["web"] (Nj ad.Web))(C_pieces:Cal P w K mg base (CX1 P w) "pieces" 2 ["web"] (hZ ad.Web))(C_excess:Cal P w K mg base (CX1 P w) "excess" 2 ["web", "some"] (nA K ad.Web)) :
  bW P w K mg base (CX1 P w) 6 f fd ["web"] (Ej ad.Web):=by
 refine F.okN iL (fun vs H Q E h=>?_) (fun cdv A outer s H vs Q E hr h=>?_)
 ·obtain⟨x,tp,n,ms,us,p,q',rfl,_⟩:=h
  rfl
 ·obtain⟨x,tp,n,ms,us,p,q',rfl,hW,hok,hway,q⟩:=h
  have hs:sizeLine=16777216:=sizeLine_eq;have htr:Tr p us q':=hway.1;have hpm:=hway.2.symm;have h64:=hok.2.1;refine⟨_,(aB (aI (i:=1) iL.nd rfl (Or.inl rfl) (aJ C_why_no_row hr aS (aA (pv 0) aC)))
   (aB (bS (kU (Tz (pv 1))) (aE Qa) aY)
   (aB (bS (kU (yO (aJ C_why_no_ring hr aS (aA (pv 0) aC)))) (aE (aV Fm)) aY)
   (aB (dF (i:=2) vL rfl (bH (aJ C_pieces hr aS (aA (pv 0) aC))) (fun cl C s' H' fp=>(aP lY (aJ C_excess hr aS (aA (pv 1) (aA (cJ (aA (pv 0) aC)) aC))) aG (aW _))) (fun cl C s' H' fp=>(pv 0)) iL.nd rfl rfl)
   (aB (dF (i:=3) vI rfl (bH (aJ C_pieces hr aS (aA (pv 0) aC))) (fun cl C s' H' fp=>(aP kZ (aJ C_excess hr aS (aA (pv 1) (aA (cJ (aA (pv 0) aC)) aC))) aG (aW _))) (fun cl C s' H' fp=>(pv 0)) iL.nd rfl rfl)
   (aE (aV (oR (aA (cL cG (pv 2) aG (fun _ _=>rfl)) (aA (cL cG (pv 3) aG (fun _ _=>rfl)) aC)))))))))),?_⟩
  (try rw[cP]);(try rw[cxK1])
  refine⟨_,rfl,x,tp,n,ms,rfl,hW,hok,fun ev r v H1 hpc hwy hv s1=>?_⟩;obtain rfl:=wK htr hpm hpc hwy;obtain rfl:v = .non:=hv;refine⟨_,rfl,_,rfl,tI ?_⟩;refine⟨_,rfl,x,tp,n,ms,rfl,hW.on s1,hok,fun ev2 r2 v2 H2 hpc2 hwy2 hv2 s2=>?_⟩;have s12:=s1.trans s2;by_cases hpq:p=q'
  ·subst hpq
   obtain rfl:=Kq htr hpm hpc2 hwy2;obtain rfl:v2 = .non:=hv2;refine⟨_,rfl,vD ?_⟩;exact q .non H2 s12 (fun _=>rfl) (fun z=>absurd rfl z)
  ·obtain⟨hp1,hq1⟩:=rC hway hok.1
   have hv3:v2≠.non:=fun z=>by
    have hex:¬ exc ms [p]=0:=by rw[zM hway,if_pos rfl,if_neg (fun z=>hpq z.symm)];decide
    rcases hwy2 with ⟨y,_,rfl⟩ | ⟨g,_⟩
    ·obtain⟨p1,b1,e1,_⟩:=hv2
     rw[z] at e1;cases e1
    ·have:=qw.mp g p ((hpc2.2.2 p).mpr hp1)
     rw[decide_eq_false hex] at this;exact this rfl
   refine⟨_,rfl,itN (by rw[decide_eq_false hv3];exact am) ?_⟩;have key:∀ (ev:List (List Nat)) (z:List Nat) (g:List Nat->Bool),ev.Nodup->z∈ev->(∀ y∈ev,g y=true↔y=z)->ev.filter g=[z]:=fun ev z g h1 h2 h3=>Wd.sP h1 h2 h3
   refine⟨_,rfl,x,tp,n,ms,rfl,hW.on s12,hok,fun D1 e1 H3 hD1 s3 hd3 hpw hpn hpm1=>?_⟩;have hel:=jJ hpn fun z hz=>(hpm1 z).mp hz
   have s13:=s12.trans s3;refine⟨D1,rfl,⟨_,SqL.of hd3⟩,?_⟩;refine gZ (fun v=>decide (0<exc ms [unT v])) (fun v=>v) (bC (SqL.of hd3)) (by rw[aR];omega) (fun v G hv sg N hN=>?_) (fun v G hv hp sg N hN=>?_) fun D2 H4 hD2 s4 hd4=>?_
   ·obtain⟨l,hl,rfl⟩:=ao.mp hv
    refine⟨_,rfl,_,rfl,(by show 1<=sizeLine;omega),fun p3 hp3=>?_⟩;have t3:=aH (o:=.lst ([l].map T)) hp3;refine⟨x,tp,p3,n,ms,[l],rfl,hW.on (s13.trans (sg.trans t3)),hok,.inl (SqL.of aD),fun H4 s4=>?_⟩;have z:=hN H4 (t3.trans s4);rw[cS] at z;exact⟨_,_,rfl,rfl,_,rfl,z⟩
   ·exact⟨_,rfl,hN G (aK.refl _)⟩
   rw[show (e1.map T).filter (fun v=>decide (0<exc ms [unT v]))=(e1.filter fun l=>decide (0<exc ms [l])).map T from cO (p:=fun l=>decide (0<exc ms [l])) e1,kO,key e1 p _ hpn ((hpm1 p).mpr hp1) (fun y _=>by
    rw[decide_eq_true_iff,zM hway];by_cases h1:p=y
    ·subst h1
     rw[if_pos rfl,if_neg (fun z=>hpq z.symm)];simp
    ·rw[if_neg h1]
     exact⟨fun z=>by split at z <;> omega,fun z=>absurd z.symm h1⟩)] at hd4
   have s14:=s13.trans s4;refine⟨_,rfl,x,tp,n,ms,rfl,hW.on s14,hok,fun D3 e2 H5 hD3 s5 hd5 hpw2 hpn2 hpm2=>?_⟩;have hel2:=jJ hpn2 fun z hz=>(hpm2 z).mp hz
   have s15:=s14.trans s5;refine⟨D3,rfl,⟨_,SqL.of hd5⟩,?_⟩;refine gZ (fun v=>decide (exc ms [unT v]<0)) (fun v=>v) (bC (SqL.of hd5)) (by rw[aR];omega) (fun v G hv sg N hN=>?_) (fun v G hv hp sg N hN=>?_) fun D4 H6 hD4 s6 hd6=>?_
   ·obtain⟨l,hl,rfl⟩:=ao.mp hv
    refine⟨_,rfl,_,rfl,(by show 1<=sizeLine;omega),fun p3 hp3=>?_⟩;have t3:=aH (o:=.lst ([l].map T)) hp3;refine⟨x,tp,p3,n,ms,[l],rfl,hW.on (s15.trans (sg.trans t3)),hok,.inl (SqL.of aD),fun H4 s4=>?_⟩;have z:=hN H4 (t3.trans s4);rw[cS] at z;exact⟨_,_,rfl,rfl,_,rfl,z⟩
   ·exact⟨_,rfl,hN G (aK.refl _)⟩
   rw[show (e2.map T).filter (fun v=>decide (exc ms [unT v]<0))=(e2.filter fun l=>decide (exc ms [l]<0)).map T from cO (p:=fun l=>decide (exc ms [l]<0)) e2,kO,key e2 q' _ hpn2 ((hpm2 q').mpr hq1) (fun y _=>by
    rw[decide_eq_true_iff,zM hway];by_cases h1:q'=y
    ·subst h1
     rw[if_pos rfl,if_neg hpq];simp
    ·rw[if_neg h1]
     exact⟨fun z=>by split at z <;> omega,fun z=>absurd z.symm h1⟩)] at hd6
   refine⟨_,rfl,D2,_,_,_,rfl,rfl,SqL.of (s6 D2 _ (s5 D2 _ hd4)),bO (j:=0) rfl,_,rfl,D4,_,_,_,rfl,rfl,SqL.of hd6,bO (j:=0) rfl,(by show 2<=sizeLine;omega),fun d hd=>?_⟩;exact q _ _ (s15.trans (s6.trans (aH hd))) (fun z=>absurd z hpq) (fun _=>⟨d,rfl,aD⟩)
def Cy (K:ae):Sp:=fun vs H Q _=>∃ (a:Addr) (ns:List Int) (k:Nat),vs=[.ref a,.int (k:Nat)]∧SqL K H a (ns.map V.int)∧Q (.int (ns.getD k 0)) H
theorem qO {f:Addr}{fd:FuncData}(F:Fun K "_law_cell_at" "_law_cell_at" gT f fd)(tt:Txt K mg ad):bW P w K mg base (CX1 P w) 1 f fd ["script", "k"] (Cy K):=by
 refine F.okN qY (fun vs H Q E h=>?_) (fun cdv A outer s H vs Q E hr h=>?_)
 ·obtain⟨a,ns,k,rfl,_⟩:=h
  rfl
 ·obtain⟨a,ns,k,rfl,hS,q⟩:=h
  refine⟨_,(aB (bS (aP kZ (pv 1) (aL aN (by rfl) tt.b_len a0 (aA (pv 0) aC)) (aW _)) (aE (aV (cL cG (pv 0) (pv 1) (fun _ _=>rfl)))) aY)
   (aE (aV aG))),?_⟩
  (try rw[cP]);(try rw[cxK1])
  refine⟨_,rfl,_,rfl,a,_,rfl,.inl hS,_,_,rfl,rfl,_,rfl,?_⟩;rw[aR];refine fZ (fun h0=>?_) (fun h0=>?_)
  ·have h1:k<ns.length:=by have:=of_decide_eq_true h0;omega
   rw[ai,aa h1] at q;exact⟨_,rfl,_,rfl,a,_,_,_,rfl,rfl,hS,bO (by rw[ah,aa h1];rfl),q⟩
  ·have h1:¬ k<ns.length:=fun z=>h0 (decide_eq_true (by omega))
   rw[ai,bn (by omega)] at q;exact q
theorem Mw {s:Int}(h0:0<=s)(h1:s<6):∃ c,atI [97,98,99,100,101,102] s=some c∧97<=c∧c<103:=by
 obtain⟨m,hm⟩:=Int.eq_ofNat_of_zero_le h0;have hm':s=(m:Int):=hm;subst hm';exact⟨97+m,bO (aAK (by omega)),by omega,by omega⟩
def WL (ls:List (List Nat))(n:Nat):Prop:=(∀ x∈ls,x.length=n∧Abc x)∧ls.Nodup
theorem WL.sub {ls ls':List (List Nat)}{n:Nat}(h:WL ls n)(s:ls'.Sublist ls):WL ls' n:=⟨fun x hx=>h.1 x (s.subset hx),h.2.sublist s⟩
theorem WL.snoc {ls:List (List Nat)}{n:Nat}{t:List Nat}(h:WL ls n)(ht:t.length=n∧Abc t)(hn:¬ t∈ls):WL (ls++[t]) n:=by
 refine⟨fun x hx=>?_,d9.mpr ⟨h.2,by simp,fun a ha b hb ee=>hn ?_⟩⟩
 ·rcases bu.mp hx with z | z
  ·exact h.1 x z
  ·have e:x=t:=by simpa using z
   subst e;exact ht
 ·have hb':b=t:=by simpa using hb
  rw[<- hb',<- ee];exact ha
theorem Aq {k c:Nat}(h:c∈([97,98,99,100,101,102]:List Nat).take k):97<=c∧c<103:=by
 have:=qf h
 simp at this;omega
def Nc (K:ae):Sp:=fun vs H Q _=>∃ (c:Addr) (ns:List Int) (k:Nat) (f0:List Nat),vs=[.ref c,.int (k:Nat),T f0]∧SqL K H c (ns.map V.int)∧(ns.length<=63∧k<=6∧f0.length<=10)∧Abc f0 ∧
 ∀ (D:Addr) (ls:List (List Nat)) (H':Hp),aK H H'->H' D=some (.lst (ls.map T))->WL ls (f0.length+1)->ls.length<=ns.length->Q (.ref D) H'
theorem xW {f:Addr}{fd:FuncData}(F:Fun K "_law_walk" "_law_walk" iE f fd)(tt:Txt K mg ad):bW P w K mg base (CX1 P w) 1 f fd ["cells", "kinds", "first"] (Nc K):=by
 refine F.okN dR (fun vs H Q E h=>?_) (fun cdv A outer s H vs Q E hr h=>?_)
 ·obtain⟨c,ns,k,f0,rfl,_⟩:=h
  rfl
 ·obtain⟨c,ns,k,f0,rfl,hS,hb,hf0,q⟩:=h
  have hs:sizeLine=16777216:=sizeLine_eq;have hnl:(ns.map V.int).length=ns.length:=aR ..;refine⟨_,(aB (aI (i:=3) dR.nd rfl (Or.inr rfl) (cJ aC))
   (aB (aI (i:=4) dR.nd rfl (Or.inr rfl) (pv 2))
   (aB (cM PassesOwn.never rfl (bH (pv 0)) (bK (i:=5) dR.nd rfl (Or.inl rfl)) (aB (dF (i:=6) rR rfl (Fg (bA lR (bT [97,98,99,100,101,102] (by decide +kernel)) bN (bJ (pv 1)))) (fun cl C s' H' fp=>(aP (vG K rfl) (aQ gB (pv 5) (pv 0)) (pv 4) (by with_unfolding_all rfl))) (fun cl C s' H' fp=>(aQ gB (pv 5) (pv 0))) dR.nd rfl rfl)
   (aB (bS (aP dL (aL aN (by rfl) tt.b_len a0 (aA (pv 6) aC)) aG (aW _)) (aE rZ) aY)
   (aB (aI (i:=7) dR.nd rfl (Or.inl rfl) (cL cG (pv 6) (aQ cT (pv 5) (aL aN (by rfl) tt.b_len a0 (aA (pv 6) aC))) (fun _ _=>rfl)))
   (aB (fB (qC dv iz i0 gN (pv 3) (aA (pv 7) aC)))
   (aE (aI (i:=4) dR.nd rfl (Or.inr rfl) (bA lR (pv 7) (bJ aG) bN))))))))
   (aE (aV (pv 3)))))),?_⟩
  (try rw[cP]);(try rw[cxK1])
  refine⟨(by show 0<=sizeLine;omega),fun D hD=>?_⟩;have s0:=aH (o:=.lst []) hD;refine⟨_,rfl,?_⟩;refine⟨_,rfl,c,rfl,⟨_,s0.seq hS⟩,?_⟩;refine dA (K:=K) (a:=c) (xs:=ns.map V.int) (fun i σ H2=>aK H H2∧∃ (ls:List (List Nat)) (hh:List Nat) (v5 v6 v7:Option V),H2 D=some (.lst (ls.map T))∧WL ls (f0.length+1)∧ls.length<=i∧hh.length=f0.length∧Abc hh∧σ=[some (.ref c),some (.int (k:Nat)),some (T f0),some (.ref D),some (T hh),v5,v6,v7])
   ⟨s0,[],f0,none,none,none,aD,⟨fun x hx=>(by simp at hx),gu⟩,af _,rfl,hf0,rfl⟩ (fun i σ H2 _ h=>h.1.seq hS) ?_ ?_
  ·rintro i y σ H2 hi ⟨s2,ls,hh,v5,v6,v7,hd,hwl,hl,hhl,hab,rfl⟩
   have hi63:i<ns.length:=by have:=(aw.mp hi).1;omega
   obtain⟨z,rfl⟩:∃ z,y=V.int z:=by
    obtain⟨z,_,e⟩:=ao.mp (au hi);exact⟨z,e.symm⟩
   refine⟨_,rfl,_,rfl,_,rfl,(by show 6<=sizeLine;omega),?_⟩;have ec:fP [97,98,99,100,101,102] none (some ((k:Nat):Int))=([97,98,99,100,101,102]:List Nat).take k:=pG _ _;rw[ec];refine⟨_,rfl,?_⟩;generalize hsg:([97,98,99,100,101,102]:List Nat).take k=sg;have hsgl:sg.length<=6:=by rw[<- hsg,a6];exact ny _ _
   have hsga:∀ c∈sg,97<=c∧c<103:=fun c hc=>Aq (by rw[hsg];exact hc)
   refine gZ (vs:=(sg.map fun c=>[c]).map T) (fun v=>!decide (hh++unT v∈ls)) (fun v=>T (hh++unT v)) uH (by rw[aR,aR];omega) (fun v H3 hv s3 N hN=>?_) (fun v H3 hv hp s3 N hN=>?_) fun D1 H3 hD1 s3 hd3=>?_
   ·obtain⟨l,hl',rfl⟩:=ao.mp hv
    obtain⟨ch,hch,rfl⟩:=ao.mp hl';have g:=hN H3 (aK.refl _);rw[cS] at g;refine⟨_,rfl,_,rfl,_,rfl,_,rfl,(by show hh.length+1<=sizeLine;omega),_,rfl,D,_,rfl,.inl (SqL.of (s3 D _ hd)),rfl,hU ls,_,rfl,?_⟩;show N (!inV (T (hh++[ch])) (ls.map T)) H3;rw[uT];exact g
   ·obtain⟨l,hl',rfl⟩:=ao.mp hv
    obtain⟨ch,hch,rfl⟩:=ao.mp hl';have g:=hN H3 (aK.refl _);rw[cS] at g;exact⟨_,rfl,_,rfl,_,rfl,_,rfl,(by show hh.length+1<=sizeLine;omega),g⟩
   obtain⟨fr,hfr,hfm⟩:∃ fr:List (List Nat),(((sg.map fun c=>[c]).map T).filter (fun v=>!decide (hh++unT v∈ls))).map (fun v=>T (hh++unT v))=fr.map T∧∀ t∈fr,(t.length=f0.length+1∧Abc t)∧¬ t∈ls:=by
    refine⟨((sg.map fun c=>[c]).filter fun l=>!decide (hh++l∈ls)).map fun l=>hh++l,?_,fun t ht=>?_⟩
    ·rw[show ((sg.map fun c=>[c]).map T).filter (fun v=>!decide (hh++unT v∈ls))=((sg.map fun c=>[c]).filter fun l=>!decide (hh++l∈ls)).map T from cO (p:=fun l=>!decide (hh++l∈ls)) _,fU (f:=fun l=>T (hh++l)),bj]
     rfl
    ·obtain⟨l,hl',rfl⟩:=ao.mp ht
     obtain⟨h1,h2⟩:=cc.mp hl';obtain⟨ch,hch,rfl⟩:=ao.mp h1;refine⟨⟨by rw[ak,hhl];rfl,fun d hd'=>?_⟩,fun z=>by rw[decide_eq_true z] at h2;cases h2⟩;rcases bu.mp hd' with g | g
     ·exact hab d g
     ·have e:d=ch:=by simpa using g
      subst e;exact hsga d hch
   rw[hfr] at hd3;have hfl:(fr.map T).length=fr.length:=aR ..;refine⟨_,rfl,D1,_,rfl,.inl (SqL.of hd3),_,rfl,_,rfl,_,rfl,?_⟩;rw[hfl];refine fZ (fun h0=>?_) (fun h0=>?_)
   ·exact⟨_,rfl,q D ls H3 (s2.trans s3) (s3 D _ hd) hwl (by omega)⟩
   have hf0:0<fr.length:=by
    rcases my fr.length with g | g
    ·exact absurd (decide_eq_true (by rw[g];rfl)) h0
    ·exact g
   have z0:=dk z (show ((fr.length:Nat):Int)≠0 by omega);have z1:=cx z (show (0:Int)<((fr.length:Nat):Int) by omega);obtain⟨m,hm,hml⟩:∃ m:Nat,z % ((fr.length:Nat):Int)=(m:Int)∧m<fr.length:=⟨(z % ((fr.length:Nat):Int)).toNat,by omega,by omega⟩;obtain⟨t,ht⟩:∃ t,fr[m]?=some t:=⟨_,aa hml⟩;obtain⟨htn,htl⟩:=hfm t (au ht);refine⟨_,rfl,_,rfl,_,rfl,D1,_,rfl,.inl (SqL.of hd3),_,_,rfl,rfl,(by show (0:Int)<(((fr.map T).length:Nat):Int);omega),D1,_,_,_,rfl,rfl,SqL.of hd3,(by rw[hfl,hm];exact bO (by rw[ah,ht];rfl)),?_⟩;refine⟨_,rfl,.inl ⟨rfl,_,SqL.of (s3 D _ hd)⟩,_,rfl,D,_,_,rfl,rfl,s3 D _ hd,(by rw[aR];omega),?_⟩;have ed:fP t (some 1) none=t.drop 1:=jD (k:=1) (by omega);refine⟨_,rfl,_,rfl,_,rfl,(by omega),?_⟩;refine⟨(fun b o e=>by rw[aM (aO e hD)];exact (s2.trans s3) b o e),ls++[t],t.drop 1,some (.int z),some (.ref D1),some (T t),by rw[bc];exact aD,hwl.snoc htn htl,by rw[ak,b7];omega,by rw[a9];omega,fun d hd'=>htn.2 d (qe hd'),?_⟩;rw[<- ed];rfl
  ·rintro σ H2 ⟨s2,ls,hh,v5,v6,v7,hd,hwl,hl,hhl,hab,rfl⟩
   exact⟨_,rfl,q D ls H2 s2 hd hwl (by omega)⟩
theorem Jm {ns:List Int}{lo hi:Option Int}:∃ ms:List Int,dE (ns.map V.int) lo hi=ms.map V.int:=by
 refine⟨(ns.drop (HT.sIx ns.length 0 lo)).take (HT.sIx ns.length ns.length hi-HT.sIx ns.length 0 lo),?_⟩;rw[dE,aR,kh,kg]
theorem yY {xs:List V}{a b:Nat}:(dE xs (some (a:Int)) (some (b:Int))).length<=b-a:=by
 unfold dE;rw[HT.eF,HT.eF,a6,a9];omega
theorem Uv {l:List Int}{lo hi:Int}(h:∀ x∈l,lo<=x∧x<=hi){z:Int}(h0:0<=z)(h1:z<l.length):∃ v:Int,atI (l.map V.int) z=some (.int v)∧lo<=v∧v<=hi:=by
 obtain⟨m,rfl⟩:∃ m:Nat,z=(m:Int):=⟨z.toNat,by omega⟩;have hm:m<l.length:=by omega
 obtain⟨a,b⟩:=h _ (cy hm);exact⟨l[m],bO (by rw[ah,aa hm];rfl),a,b⟩
theorem Iq {ls:List (List Nat)}:dE (ls.map T) none (some (-1))=(ls.take (ls.length-1)).map T:=by
 unfold dE;rw[HT.eO,gd,iu,aR,kh];show (ls.map T).take (if (-1:Int)<0 then ((-1:Int)+(ls.length:Int)).toNat else min (-1:Int).toNat ls.length)=_;rw[if_pos (by decide),show ((-1:Int)+(ls.length:Int)).toNat=ls.length-1 by omega]
theorem Uw (n:Nat):(Wd.rep n [97]).length=n∧Abc (Wd.rep n [97]):=by
 refine⟨by rw[Wd.Hx];show n*1=n;omega,fun c hc=>?_⟩;unfold Wd.rep at hc;obtain⟨l,h1,h2⟩:=List.mem_flatten.mp hc;rw[List.eq_of_mem_replicate h1] at h2;have e:c=97:=by simpa using h2
 omega
theorem WL.one {n:Nat}{t:List Nat}(h:t.length=n∧Abc t):WL [t] n:=⟨fun x hx=>by rw[a7.mp hx];exact h,by simp⟩
def Bj (K:ae):Sp:=fun vs H Q _=>∃ (a:Addr) (ns:List Int),vs=[.ref a,.int 0,.int 7]∧SqL K H a (ns.map V.int)∧∀ (D:Addr) (ls:List (List Nat)) (n:Nat) (H':Hp),aK H H'->H' D=some (.lst (ls.map T))->WL ls n->(1<=n∧n<=5)->ls≠[]->ls.length<=7->Q (.ref D) H'
theorem mL {f:Addr}{fd:FuncData}(F:Fun K "_law_ring_words" "_law_ring_words" fE f fd)(tt:Txt K mg ad)(C__law_cell_at:Cal P w K mg base (CX1 P w) "_law_cell_at" 1 ["script", "k"] (Cy K))(C__law_walk:Cal P w K mg base (CX1 P w) "_law_walk" 1 ["cells", "kinds", "first"] (Nc K)) :
  bW P w K mg base (CX1 P w) 2 f fd ["script", "at", "most"] (Bj K):=by
 refine F.okN aZ (fun vs H Q E h=>?_) (fun cdv A outer s H vs Q E hr h=>?_)
 ·obtain⟨a,ns,rfl,_⟩:=h
  rfl
 ·obtain⟨a,ns,rfl,hS,q⟩:=h
  have hs:sizeLine=16777216:=sizeLine_eq;obtain⟨nz,hnz,n1,n5⟩:=Uv (l:=[2,3,1,4,2,3,5]) (lo:=1) (hi:=5) (by decide) (dk (ns.getD 0 0) (show (7:Int)≠0 by decide)) (cx _ (show (0:Int)<7 by decide));obtain⟨kz,hkz,k1,k6⟩:=Uv (l:=[2,3,2,2,4,6,2,1]) (lo:=1) (hi:=6) (by decide) (dk (ns.getD 1 0) (show (8:Int)≠0 by decide)) (cx _ (show (0:Int)<8 by decide));obtain⟨n,rfl⟩:∃ n:Nat,nz=(n:Int):=⟨nz.toNat,by omega⟩;obtain⟨k,rfl⟩:∃ k:Nat,kz=(k:Int):=⟨kz.toNat,by omega⟩;refine⟨_,(aB (aI (i:=3) aZ.nd rfl (Or.inl rfl) (cL cG (cJ (aA aG (aA aG (aA aG (aA aG (aA aG (aA aG (aA aG aC)))))))) (aQ cT (aJ C__law_cell_at hr aS (aA (pv 0) (aA (pv 1) aC))) aG) (fun _ _=>rfl)))
   (aB (aI (i:=4) aZ.nd rfl (Or.inl rfl) (cL cG (cJ (aA aG (aA aG (aA aG (aA aG (aA aG (aA aG (aA aG (aA aG aC))))))))) (aQ cT (aJ C__law_cell_at hr aS (aA (pv 0) (aA (aQ dJ (pv 1) aG) aC))) aG) (fun _ _=>rfl)))
   (aB (aI (i:=5) aZ.nd rfl (Or.inl rfl) (aJ C__law_cell_at hr aS (aA (pv 0) (aA (aQ dJ (pv 1) aG) aC))))
   (aB (aI (i:=6) aZ.nd rfl (Or.inl rfl) (bT [] (by decide +kernel)))
   (aB (cM PassesOwn.never rfl (gP (by rfl) tt.b_range (aA (aQ eR (pv 3) aG) aC)) (bK (i:=7) aZ.nd rfl (Or.inl rfl)) (aB (aI (i:=6) aZ.nd rfl (Or.inl rfl) (aQ gB (pv 6) (cL Kf (bT [97,98,99,100,101,102] (by decide +kernel)) (aQ cT (pv 5) (pv 4)) (fun _ _=>rfl))))
   (aE (aI (i:=5) aZ.nd rfl (Or.inl rfl) (aQ iK (pv 5) (pv 4))))))
   (aB (aI (i:=8) aZ.nd rfl (Or.inl rfl) (aJ C__law_walk hr aS (aA (bA eP (pv 0) (bJ (aQ dJ (pv 1) aG)) (bJ (aQ dJ (aQ dJ (pv 1) aG) (pv 2)))) (aA (pv 4) (aA (pv 6) aC)))))
   (aB (iX PassesOwn.never (PW.pt (tT (aP lY (aL aN (by rfl) tt.b_len a0 (aA (pv 8) aC)) aG (aW _)) (nO (aP jV (bA lR (cL cG (pv 8) (mF iO aG) (fun _ _=>rfl)) (bJ aG) bN) (pv 6) (aW _))))) (aE (aI (i:=8) aZ.nd rfl (Or.inl rfl) (bA eP (pv 8) bN (bJ (mF iO aG))))))
   (aB (bS (aP dL (aL aN (by rfl) tt.b_len a0 (aA (pv 8) aC)) aG (aW _)) (aE (aI (i:=8) aZ.nd rfl (Or.inl rfl) (cJ (aA (aQ Cc (bT [97] (by decide +kernel)) (pv 3)) aC)))) aY)
   (aE (aV (pv 8))))))))))),?_⟩
  (try rw[cP]);(try rw[cxK1])
  refine⟨(by show 7<=sizeLine;omega),fun p1 hp1=>?_⟩;have s1:=aH (o:=.lst [.int 2,.int 3,.int 1,.int 4,.int 2,.int 3,.int 5]) hp1;refine⟨_,rfl,_,rfl,a,ns,0,rfl,s1.seq hS,_,_,rfl,rfl,(by show (0:Int)<7;decide),p1,_,_,_,rfl,rfl,SqL.of aD,hnz,?_⟩;refine⟨(by show 8<=sizeLine;omega),fun p2 hp2=>?_⟩;have s2:=s1.trans (aH (o:=.lst [.int 2,.int 3,.int 2,.int 2,.int 4,.int 6,.int 2,.int 1]) hp2);refine⟨_,rfl,_,rfl,_,_,rfl,rfl,a,ns,1,rfl,s2.seq hS,_,_,rfl,rfl,(by show (0:Int)<8;decide),p2,_,_,_,rfl,rfl,SqL.of aD,hkz,?_⟩;obtain⟨H2,hH2,s2⟩:=Qo s2;rw[<- hH2];refine⟨_,rfl,_,rfl,_,_,rfl,rfl,a,ns,2,rfl,s2.seq hS,?_⟩;refine⟨_,rfl,_,_,rfl,rfl,_,rfl,by omega,by omega,?_⟩;rw[show (((n:Nat):Int)-1).toNat=n-1 by omega];refine fQ (fun i σ H3=>H2=H3∧∃ (d:Int) (t:List Nat) (v7:Option V),t.length=i∧Abc t∧σ=[some (.ref a),some (.int 0),some (.int 7),some (.int (n:Nat)),some (.int (k:Nat)),some (.int d),some (T t),v7,none])
   ⟨rfl,ns.getD 2 0,[],none,rfl,(fun c hc=>by simp at hc),rfl⟩ ?_ ?_
  ·rintro i σ H3 hi ⟨rfl,d,t,v7,ht,hab,rfl⟩
   have z0:=dk d (show ((k:Nat):Int)≠0 by omega);have z1:=cx d (show (0:Int)<((k:Nat):Int) by omega);obtain⟨c,hc,c0,c1⟩:=Mw z0 (by omega);refine⟨_,rfl,_,rfl,_,rfl,_,_,rfl,rfl,(by show (0:Int)<((k:Nat):Int);omega),_,rfl,_,rfl,(by show 6<=sizeLine;omega),c,hc,_,rfl,_,rfl,(by show t.length+1<=sizeLine;omega),?_⟩;refine⟨_,rfl,_,rfl,_,_,rfl,rfl,⟨by omega,by omega⟩,?_⟩;refine⟨rfl,d/((k:Nat):Int),t++[c],some (.int (0+(i:Int))),by rw[ak,ht];rfl,fun e he=>?_,rfl⟩;rcases bu.mp he with g | g
   ·exact hab e g
   ·have e':e=c:=by simpa using g
    subst e';exact⟨c0,c1⟩
  ·rintro σ H3 ⟨rfl,d,f0,v7,hf,hab,rfl⟩
   obtain⟨ds,hds⟩:∃ ds:List Int,dE (ns.map V.int) (some ((3:Nat):Int)) (some ((10:Nat):Int))=ds.map V.int:=Jm;have hdl:ds.length<=7:=by
    have e:=congrArg gi hds;have e2:=yY (xs:=ns.map V.int) (a:=3) (b:=10);rw[aR] at e;omega
   refine⟨_,rfl,_,rfl,_,_,rfl,rfl,_,rfl,_,rfl,_,_,rfl,rfl,_,rfl,_,_,rfl,rfl,_,rfl,a,_,rfl,s2.seq hS,fun p4 hp4=>?_⟩;rw[show dE (ns.map V.int) (some ((0:Int)+3)) (some ((0:Int)+3+7))=ds.map V.int from hds];have s4:=s2.trans (aH (o:=.lst (ds.map V.int)) hp4);refine⟨_,rfl,_,rfl,p4,ds,k,f0,rfl,SqL.of aD,⟨by omega,by omega,by omega⟩,hab,fun D ls H5 s5 hd hwl hl=>?_⟩;have hn':f0.length+1=n:=by omega
   rw[hn'] at hwl;have s05:=s4.trans s5;refine⟨fun m σ H6=>∃ (p:Addr) (ls':List (List Nat)),m=ls'.length∧aK H H6∧H6 p=some (.lst (ls'.map T))∧WL ls' n∧ls'.length<=7∧σ=[some (.ref a),some (.int 0),some (.int 7),some (.int (n:Nat)),some (.int (k:Nat)),some (.int d),some (T f0),v7,some (.ref p)],⟨ls.length,D,ls,rfl,s05,hd,hwl,by omega,rfl⟩,?_⟩;rintro m σ H6 ⟨p,ls',hm,s6,hd6,hw6,hl6,rfl⟩;have hml:(ls'.map T).length=ls'.length:=aR ..;have fin:∀ (D:Addr) (ls2:List (List Nat)) (H':Hp),aK H H'->H' D=some (.lst (ls2.map T))->WL ls2 n->ls2≠[]->ls2.length<=7->Q (.ref D) H':=fun D ls2 H' h1 h2 h3 h4 h5=>q D ls2 n H' h1 h2 h3 ⟨by omega,by omega⟩ h4 h5
   refine⟨_,rfl,p,_,rfl,.inl (SqL.of hd6),_,_,rfl,rfl,_,rfl,?_⟩;rw[hml];refine fZ (fun h0=>?a) (fun h0=>?b)
   case' a =>
    have h0':0<ls'.length:=by have:=of_decide_eq_true h0;omega
    obtain⟨t,ht⟩:∃ t,ls'[ls'.length-1]?=some t:=⟨_,aa (by omega)⟩;have htl:=(hw6.1 t (au ht)).1;have hat:atI (ls'.map T) (-1)=some (T t):=by
     show (ixN (ls'.map T).length (-1)).bind _=_;rw[hml];unfold ixN;rw[if_neg (by decide),if_pos (by omega),show ((-1:Int)+ls'.length).toNat=ls'.length-1 by omega];show (ls'.map T)[ls'.length-1]?=_;rw[ah,ht];rfl
    refine⟨_,rfl,_,rfl,p,_,_,_,rfl,rfl,SqL.of hd6,hat,_,rfl,_,rfl,(by omega),_,rfl,_,rfl,_,rfl,_,rfl,?_⟩;refine fZ (fun h1=>?a1) (fun h1=>?a2)
   case a1 =>
    refine⟨_,fun σ' H' z=>z,?_⟩;refine⟨_,rfl,_,rfl,_,rfl,p,_,rfl,SqL.of hd6,fun p7 hp7=>?_⟩;rw[show dE (ls'.map T) none (some (-(1:Int)))=(ls'.take (ls'.length-1)).map T from Iq];have htk:(ls'.take (ls'.length-1)).length=ls'.length-1:=by rw[a6];omega
    exact⟨ls'.length-1,by omega,p7,ls'.take (ls'.length-1),htk.symm,s6.trans (aH hp7),aD,hw6.sub (gc _ _),by omega,rfl⟩
   all_goals
    refine⟨_,rfl,p,_,rfl,.inl (SqL.of hd6),_,rfl,_,rfl,_,rfl,?_⟩;rw[hml];refine fZ (fun h2=>?_) (fun h2=>?_)
    ·refine⟨_,rfl,_,rfl,n,rfl,⟨by omega,by show n*1<=sizeLine;omega⟩,(by show 1<=sizeLine;omega),fun p7 hp7=>?_⟩
     exact⟨_,rfl,fin p7 [Wd.rep n [97]] _ (s6.trans (aH hp7)) aD (WL.one (Uw n)) (by simp) (by show 1<=7;decide)⟩
    ·exact⟨_,rfl,fin p ls' H6 s6 hd6 hw6 (fun z=>h2 (decide_eq_true (by rw[z];rfl))) hl6⟩
def ext (ws:List (List Nat))(sg:List Nat):List (List Nat):=ws.flatMap fun w=>sg.map fun c=>w++[c]
theorem Qv (ws:List (List Nat))(w:List Nat)(sg:List Nat):ext (ws++[w]) sg=ext ws sg++sg.map fun c=>w++[c]:=by
 unfold ext;rw[i9];simp
theorem xO (sg:List Nat):∀ ws:List (List Nat),(ext ws sg).length=ws.length*sg.length
 | []=>by simp[ext]
 | w::ws=>by
  have ih:=xO sg ws;unfold ext at ih ⊢;rw[cm,ak,ih,aR,aq,Nat.succ_mul,iq]
theorem Gk {ws:List (List Nat)}{sg:List Nat}{x:List Nat}(h:x∈ext ws sg):∃ w∈ws,∃ c∈sg,x=w++[c]:=by
 obtain⟨w,hw,hx⟩:=jd.mp h;obtain⟨c,hc,e⟩:=ao.mp hx;exact⟨w,hw,c,hc,e.symm⟩
theorem xJ {sg:List Nat}(hs:sg.Nodup):∀ {ws:List (List Nat)},ws.Nodup->(ext ws sg).Nodup
 | [],_=>gu
 | w::ws,h=>by
  rw[bv] at h;have ih:=xJ hs h.2;show (ext (w::ws) sg).Nodup;have e:ext (w::ws) sg=(sg.map fun c=>w++[c])++ext ws sg:=by unfold ext;rw[cm]
  rw[e];refine d9.mpr ⟨?_,ih,fun a ha b hb ee=>h.1 ?_⟩
  ·refine de.mpr (hs.imp fun hne z=>hne ?_)
   have:=List.append_cancel_left z
   simpa using this
  ·obtain⟨c,hc,e1⟩:=ao.mp ha
   obtain⟨w',hw',c',hc',e2⟩:=Gk hb;have z:w++[c]=w'++[c']:=e1.trans (ee.trans e2);have z2:=(List.append_inj' z rfl).1;rw[z2];exact hw'
theorem WL.ext {ws:List (List Nat)}{sg:List Nat}{i:Nat}(h:WL ws i)(hs:sg.Nodup)(ha:∀ c∈sg,97<=c∧c<103):WL (ext ws sg) (i+1):=by
 refine⟨fun x hx=>?_,xJ hs h.2⟩;obtain⟨w,hw,c,hc,rfl⟩:=Gk hx;obtain⟨h1,h2⟩:=h.1 w hw;refine⟨by rw[ak,h1];rfl,fun d hd=>?_⟩;rcases bu.mp hd with g | g
 ·exact h2 d g
 ·have e:d=c:=by simpa using g
  subst e;exact ha d hc
def Gy:Sp:=fun vs H Q _=>∃ (k n:Nat),vs=[.int (k:Nat),.int (n:Nat)]∧(k<=6∧n<=4)∧∀ (D:Addr) (ls:List (List Nat)) (H':Hp),H D=none->aK H H'->H' D=some (.lst (ls.map T))->WL ls n->ls.length<=2000->Q (.ref D) H'
theorem uZ {f:Addr}{fd:FuncData}(F:Fun K "_law_every" "_law_every" gM f fd)(tt:Txt K mg ad):bW P w K mg base (CX1 P w) 1 f fd ["kinds", "length"] Gy:=by
 refine F.okN dX (fun vs H Q E h=>?_) (fun cdv A outer s H vs Q E hr h=>?_)
 ·obtain⟨k,n,rfl,_⟩:=h
  rfl
 ·obtain⟨k,n,rfl,hb,q⟩:=h
  have hs:sizeLine=16777216:=sizeLine_eq;obtain⟨sg,hsg,hsgl,hsga,hsgn⟩:∃ sg:List Nat,fP [97,98,99,100,101,102] none (some ((k:Nat):Int))=sg∧sg.length<=6∧(∀ c∈sg,97<=c∧c<103)∧sg.Nodup :=
   ⟨_,pG _ _,by rw[a6];exact ny _ _,fun c hc=>Aq hc,(show ([97,98,99,100,101,102]:List Nat).Nodup by decide).sublist (gc _ _)⟩
  refine⟨_,(aB (aI (i:=2) dX.nd rfl (Or.inl rfl) (cJ (aA (bT [] (by decide +kernel)) aC)))
   (aB (cM PassesOwn.never rfl (gP (by rfl) tt.b_range (aA (pv 1) aC)) (bK (i:=3) dX.nd rfl (Or.inl rfl)) (aB (aI (i:=4) dX.nd rfl (Or.inl rfl) (cJ aC))
   (aB (cM PassesOwn.never rfl (bH (pv 2)) (bK (i:=5) dX.nd rfl (Or.inr rfl)) (aE (fB (qC dv nr nu xD (pv 4) (aA (cV qZ rfl (Fg (bA lR (bT [97,98,99,100,101,102] (by decide +kernel)) bN (bJ (pv 0)))) (fun cl C s' H' fp=>(aQ gB (pv 6) (pv 0)))) aC)))))
   (aE (aI (i:=2) dX.nd rfl (Or.inl rfl) (pv 4))))))
   (aE (aV (pv 2))))),?_⟩
  (try rw[cP]);(try rw[cxK1])
  refine⟨(by show 1<=sizeLine;omega),fun p0 hp0=>?_⟩;refine⟨_,rfl,_,rfl,by omega,by omega,?_⟩;rw[cu];refine fQ (fun i σ H2=>aK H H2∧∃ (p:Addr) (ls:List (List Nat)) (v3 v4 v5:Option V),H p=none∧H2 p=some (.lst (ls.map T))∧WL ls i∧ls.length<=6 ^ i∧σ=[some (.int (k:Nat)),some (.int (n:Nat)),some (.ref p),v3,v4,v5])
   ⟨aH hp0,p0,[[]],none,none,none,hp0,aD,⟨fun x hx=>by rw[a7.mp hx];exact⟨rfl,fun c hc=>by simp at hc⟩,by simp⟩,(by decide),rfl⟩ ?_ ?_
  ·rintro i σ H2 hi ⟨s2,p,ls,v3,v4,v5,hpn,hd,hwl,hl,rfl⟩
   have hl3:ls.length<=216:=av hl (db (by decide) (show i<=3 by omega));refine⟨(by show 0<=sizeLine;omega),fun D hD=>?_⟩;have s3:=aH (o:=.lst []) hD;refine⟨_,rfl,p,rfl,⟨_,SqL.of (s3 p _ hd)⟩,?_⟩;refine dA (K:=K) (a:=p) (xs:=ls.map T) (fun j σ H3=>aK H2 H3∧∃ (v5:Option V),H3 D=some (.lst ((ext (ls.take j) sg).map T))∧σ=[some (.int (k:Nat)),some (.int (n:Nat)),some (.ref p),some (.int (0+(i:Int))),some (.ref D),v5])
    ⟨s3,v5,aD,rfl⟩ (fun j σ H3 _ h=>SqL.of (h.1 p _ hd)) ?_ ?_
   ·rintro j y σ H3 hj ⟨s4,v5,hd4,rfl⟩
    obtain⟨wd,hwd,rfl⟩:∃ wd,ls[j]?=some wd∧y=T wd:=by
     rw[ah] at hj;obtain⟨x,h1,h2⟩:=ba.mp hj;exact⟨x,h1,h2.symm⟩
    have hwdl:=(hwl.1 wd (au hwd)).1;refine⟨_,rfl,.inl ⟨rfl,_,SqL.of hd4⟩,_,rfl,_,rfl,_,rfl,(by show 6<=sizeLine;omega),?_⟩;rw[hsg];refine⟨_,rfl,?_⟩;refine iJ (vs:=(sg.map fun c=>[c]).map T) (fun v=>T (wd++unT v)) uH (by rw[aR,aR];omega) (fun v H5 hv s5 N hN=>?_) fun D1 H5 hD1 s5 hd5=>?_
    ·obtain⟨l,hl',rfl⟩:=ao.mp hv
     obtain⟨ch,hch,rfl⟩:=ao.mp hl';have g:=hN H5 (aK.refl _);rw[cS] at g;exact⟨_,rfl,_,rfl,_,rfl,_,rfl,(by show wd.length+1<=sizeLine;omega),g⟩
    rw[fU (f:=fun l=>T (wd++l)),bj] at hd5;have e5:sg.map ((fun l=>T (wd++l))∘fun c=>[c])=(sg.map fun c=>wd++[c]).map T:=by rw[bj];rfl
    rw[e5] at hd5;have hjl:j<ls.length:=(aw.mp hwd).1;have el:=xO sg (ls.take j);have htk:(ls.take j).length<=216:=by rw[a6];omega
    have hm:(ls.take j).length*sg.length<=216*6:=fg htk hsgl;refine⟨D,D1,_,_,rfl,rfl,s5 D _ hd4,hd5,(by rw[aR,aR,aR,el];omega),?_⟩;refine⟨(fun b o e=>by rw[aM (aO e hD)];exact (s4.trans s5) b o e),some (T wd),?_,rfl⟩;rw[ca,hwd,show (some wd).toList=[wd] from rfl,Qv,bc];exact aD
   ·rintro σ H3 ⟨s4,v5',hd4,rfl⟩
    rw[aR,cf] at hd4;refine⟨_,rfl,?_⟩;have hDn:H D=none:=by
     cases e:H D with
     | none=>rfl
     | some o=>exact absurd ((s2 D o e).symm.trans hD) (fun z=>nomatch z)
    refine⟨s2.trans s4,D,ext ls sg,some (.int (0+(i:Int))),some (.ref D),v5',hDn,hd4,hwl.ext hsgn hsga,?_,rfl⟩;rw[xO,j5];exact fg hl hsgl
  ·rintro σ H2 ⟨s2,p,ls,v3,v4,v5,hpn,hd,hwl,hl,rfl⟩
   have hl4:ls.length<=1296:=av hl (db (by decide) (show n<=4 by omega));exact⟨_,rfl,q p ls H2 hpn s2 hd hwl (by omega)⟩
def Ga:Sp:=fun vs H Q _=>∃ (cell:Int),vs=[.int cell,.int 7]∧∀ (D:Addr) (ls:List (List Nat)) (n:Nat) (H':Hp),aK H H'->H' D=some (.lst (ls.map T))->WL ls n->(1<=n∧n<=5)->ls≠[]->ls.length<=7->Q (.ref D) H'
theorem lP {f:Addr}{fd:FuncData}(F:Fun K "_law_digit_words" "_law_digit_words" eS f fd)(tt:Txt K mg ad)(C__law_every:Cal P w K mg base (CX1 P w) "_law_every" 1 ["kinds", "length"] Gy):bW P w K mg base (CX1 P w) 2 f fd ["cell", "most"] Ga:=by
 refine F.okN bG (fun vs H Q E h=>?_) (fun cdv A outer s H vs Q E hr h=>?_)
 ·obtain⟨cell,rfl,_⟩:=h
  rfl
 ·obtain⟨cell,rfl,q⟩:=h
  have hs:sizeLine=16777216:=sizeLine_eq;obtain⟨m,hm,hm9⟩:∃ m:Nat,cell % 9=(m:Int)∧m<9:=⟨(cell % 9).toNat,by omega,by omega⟩;obtain⟨k,n,hpr,hk,hn⟩:∃ k n:Nat,([(2,2),(2,3),(2,4),(3,2),(3,3),(4,2),(6,1),(6,2),(5,2)]:List (Int×Int))[m]?=some (((k:Nat):Int),((n:Nat):Int))∧(1<=k∧k<=6)∧(1<=n∧n<=4):=by
   match m,hm9 with
   | 0,_=>exact⟨2,2,rfl,by decide,by decide⟩
   | 1,_=>exact⟨2,3,rfl,by decide,by decide⟩
   | 2,_=>exact⟨2,4,rfl,by decide,by decide⟩
   | 3,_=>exact⟨3,2,rfl,by decide,by decide⟩
   | 4,_=>exact⟨3,3,rfl,by decide,by decide⟩
   | 5,_=>exact⟨4,2,rfl,by decide,by decide⟩
   | 6,_=>exact⟨6,1,rfl,by decide,by decide⟩
   | 7,_=>exact⟨6,2,rfl,by decide,by decide⟩
   | 8,_=>exact⟨5,2,rfl,by decide,by decide⟩
  refine⟨_,(aB (aI (i:=2) bG.nd rfl (Or.inl rfl) (cJ (Ac [((_,_,_),(_,_,_),_,_),((_,_,_),(_,_,_),_,_),((_,_,_),(_,_,_),_,_),((_,_,_),(_,_,_),_,_),((_,_,_),(_,_,_),_,_),((_,_,_),(_,_,_),_,_),((_,_,_),(_,_,_),_,_),((_,_,_),(_,_,_),_,_),((_,_,_),(_,_,_),_,_)])))
   (aB (Wc (cL cG (pv 2) (aQ cT (pv 0) aG) (fun _ _=>rfl)) (Cu rfl (iS (bK (i:=3) bG.nd rfl (Or.inl rfl)) (iS (bK (i:=4) bG.nd rfl (Or.inl rfl)) zA))))
   (aB (aI (i:=5) bG.nd rfl (Or.inl rfl) (aQ iK (pv 0) aG))
   (aB (aI (i:=6) bG.nd rfl (Or.inl rfl) (cJ aC))
   (aB (cM PassesOwn.never rfl (bH (aJ C__law_every hr aS (An (pv 3) (An (pv 4) aC)))) (bK (i:=7) bG.nd rfl (Or.inl rfl)) (aB (bS (PW.pt (tT (aP dL (aQ cT (pv 5) aG) aG (aW _)) (nO (aP kZ (aL aN (by rfl) tt.b_len a0 (An (pv 6) aC)) (pv 1) (aW _))))) (aE (fB (qC dv iz i0 gN (pv 6) (An (pv 7) aC)))) aY)
   (aE (aI (i:=5) bG.nd rfl (Or.inl rfl) (aQ iK (pv 5) aG)))))
   (aB (bS (aP dL (aL aN (by rfl) tt.b_len a0 (An (pv 6) aC)) aG (aW _)) (aE (aI (i:=6) bG.nd rfl (Or.inl rfl) (cJ (Zq (aQ Cc (bT [97] (by decide +kernel)) (pv 4)) aC)))) aY)
   (aE (aV (pv 6))))))))),?_⟩
  (try rw[cP]);(try rw[cxK1])
  refine xI _ fun vs9 G9 hvl sG9 hv=>?_
  refine⟨(by rw[hvl];show 9<=sizeLine;omega),fun ps hps=>?_⟩;obtain⟨tp,htp,hT⟩:=hv m _ hpr;have s1:=sG9.trans (aH (o:=.lst vs9) hps);have hTp:=aH (o:=.lst vs9) hps tp _ hT;obtain⟨H1,hH1,s1,hd1⟩:=yD s1;rw[<- hH1] at hTp ⊢;refine⟨_,rfl,_,rfl,_,_,rfl,rfl,(by show (0:Int)<9;decide),ps,_,_,_,rfl,rfl,SqL.of hd1,(by rw[hm];exact bO htp),tp,_,rfl,SqT.of hTp,rfl,_,_,rfl,_,_,rfl,rfl,?_⟩;refine⟨_,rfl,_,_,rfl,rfl,⟨by decide,by decide⟩,?_⟩;refine⟨(by show 0<=sizeLine;omega),fun D hD=>?_⟩;have s2:=s1.trans (aH (o:=.lst []) hD);refine⟨_,rfl,_,rfl,k,n,rfl,⟨by omega,by omega⟩,fun De es He hDe se hde hwe hel=>⟨De,rfl,⟨_,SqL.of hde⟩,?_⟩⟩;have hDD:De≠D:=fun z=>by rw[z] at hDe;exact absurd (aD.symm.trans hDe) (fun z=>nomatch z)
  have hD0:He D=some (.lst []):=se D _ aD;have hHn:H D=none:=by
   cases e:H D with
   | none=>rfl
   | some o=>exact absurd ((s1 D o e).symm.trans hD) (fun z=>nomatch z)
  refine dA (K:=K) (a:=De) (xs:=es.map T) (fun i σ H3=>aK H H3∧H3 De=some (.lst (es.map T))∧∃ (ls:List (List Nat)) (pt:Int) (v7:Option V),H3 D=some (.lst (ls.map T))∧ls.Sublist (es.take i)∧ls.length<=7∧σ=[some (.int cell),some (.int 7),some (.ref ps),some (.int (k:Nat)),some (.int (n:Nat)),some (.int pt),some (.ref D),v7])
   ⟨s2.trans se,hde,[],cell/9,none,hD0,List.nil_sublist _,by decide,rfl⟩ (fun i σ H3 _ h=>SqL.of h.2.1) ?_ ?_
  ·rintro i y σ H3 hi ⟨s3,hd3,ls,pt,v7,hdl,hsub,hl,rfl⟩
   obtain⟨wd,hwd,rfl⟩:∃ wd,es[i]?=some wd∧y=T wd:=by
    rw[ah] at hi;obtain⟨x,h1,h2⟩:=ba.mp hi;exact⟨x,h1,h2.symm⟩
   have hml:(ls.map T).length=ls.length:=aR ..;have etk:es.take (i+1)=es.take i++[wd]:=by rw[ca,hwd];rfl
   refine⟨_,rfl,_,_,rfl,rfl,(by show (0:Int)<2;decide),_,rfl,_,rfl,_,rfl,?_⟩;refine fZ (fun h0=>?_) (fun h0=>?_)
   ·refine⟨_,rfl,D,_,rfl,.inl (SqL.of hdl),_,rfl,_,_,rfl,rfl,_,rfl,?_⟩
    rw[hml];refine fZ (fun h1=>?_) (fun h1=>?_)
    ·have h40:ls.length<7:=by have:=of_decide_eq_true h1;omega
     refine⟨_,rfl,.inl ⟨rfl,_,SqL.of hdl⟩,_,rfl,D,_,_,rfl,rfl,hdl,(by rw[hml];omega),?_⟩;refine⟨_,rfl,_,_,rfl,rfl,⟨by decide,by decide⟩,?_⟩;refine⟨(fun b o e=>by rw[aM (aO e hHn)];exact s3 b o e),by rw[aM hDD];exact hd3,ls++[wd],pt/2,some (T wd),by rw[bc];exact aD,?_,by rw[ak,b7];omega,rfl⟩;rw[etk];exact hsub.append (r6 _)
    ·refine⟨_,rfl,_,_,rfl,rfl,⟨by decide,by decide⟩,?_⟩
     exact⟨s3,hd3,ls,pt/2,some (T wd),hdl,by rw[etk];exact hsub.trans (nw _ _),hl,rfl⟩
   ·refine⟨_,rfl,_,_,rfl,rfl,⟨by decide,by decide⟩,?_⟩
    exact⟨s3,hd3,ls,pt/2,some (T wd),hdl,by rw[etk];exact hsub.trans (nw _ _),hl,rfl⟩
  ·rintro σ H3 ⟨s3,hd3,ls,pt,v7,hdl,hsub,hl,rfl⟩
   rw[aR,cf] at hsub;have hml:(ls.map T).length=ls.length:=aR ..;refine⟨_,rfl,D,_,rfl,.inl (SqL.of hdl),_,rfl,_,rfl,_,rfl,?_⟩;rw[hml];refine fZ (fun h2=>?_) (fun h2=>?_)
   ·refine⟨_,rfl,_,rfl,n,rfl,⟨by omega,by show n*1<=sizeLine;omega⟩,(by show 1<=sizeLine;omega),fun p7 hp7=>?_⟩
    exact⟨_,rfl,q p7 [Wd.rep n [97]] n _ (s3.trans (aH hp7)) aD (WL.one (Uw n)) ⟨by omega,by omega⟩ (by simp) (by show 1<=7;decide)⟩
   ·exact⟨_,rfl,q D ls n H3 s3 hdl (hwe.sub hsub) ⟨by omega,by omega⟩ (fun z=>h2 (decide_eq_true (by rw[z];rfl))) hl⟩
theorem To (d:Int){n:Nat}(h:0<n):∃ m:Nat,d % ((n:Nat):Int)=(m:Int)∧m<n:=by
 have z0:=dk d (show ((n:Nat):Int)≠0 by omega);have z1:=cx d (show (0:Int)<((n:Nat):Int) by omega);exact⟨(d % ((n:Nat):Int)).toNat,by omega,by omega⟩
theorem rK {α:Type}(l:List α)(m:Nat):(l.take m++l.drop (m+1)).Sublist l:=by
 have h:(l.take m++l.drop (m+1)).Sublist (l.take m++l.drop m):=(r6 _).append (by rw[<- ue];exact r8 _ _)
 rwa [ie] at h
theorem iV {ls:List (List Nat)}{k:Nat}(h:k<=ls.length):dE (ls.map T) (some (k:Int)) none=(ls.drop k).map T:=by
 unfold dE;rw[HT.eF,HT.eO,aR,fm h,<- kg,<- kh,cj (by rw[a9];omega)]
theorem rH {ls:List (List Nat)}{k:Nat}(h:k<=ls.length):dE (ls.map T) none (some (k:Int))=(ls.take k).map T:=by
 unfold dE;rw[HT.eF,HT.eO,aR,fm h,gd,iu,kh]
def Ht (K:ae):Sp:=fun vs H Q _=>∃ (a:Addr) (ns:List Int),vs=[.ref a,.int 0,.int 7]∧SqL K H a (ns.map V.int)∧∀ (D:Addr) (ls:List (List Nat)) (n:Nat) (H':Hp),aK H H'->H' D=some (.lst (ls.map T))->WL ls n->(1<=n∧n<=5)->ls≠[]->ls.length<=10->Q (.ref D) H'
theorem mX {f:Addr}{fd:FuncData}(F:Fun K "_law_some_words" "_law_some_words" fC f fd)(tt:Txt K mg ad)(C__law_cell_at:Cal P w K mg base (CX1 P w) "_law_cell_at" 1 ["script", "k"] (Cy K))(C__law_ring_words:Cal P w K mg base (CX1 P w) "_law_ring_words" 2 ["script", "at", "most"] (Bj K))
  (C__law_digit_words:Cal P w K mg base (CX1 P w) "_law_digit_words" 2 ["cell", "most"] Ga):bW P w K mg base (CX1 P w) 3 f fd ["script", "at", "most"] (Ht K):=by
 refine F.okN aX (fun vs H Q E h=>?_) (fun cdv A outer s H vs Q E hr h=>?_)
 ·obtain⟨a,ns,rfl,_⟩:=h
  rfl
 ·obtain⟨a,ns,rfl,hS,q⟩:=h
  have hs:sizeLine=16777216:=sizeLine_eq;refine⟨_,(aB (aI (i:=3) aX.nd rfl (Or.inl rfl) (aJ C__law_ring_words hr aS (aA (pv 0) (aA (pv 1) (aA (pv 2) aC)))))
   (aB (aI (i:=4) aX.nd rfl (Or.inl rfl) (aQ cT (aQ iK (aJ C__law_cell_at hr aS (aA (pv 0) (aA (pv 1) aC))) aG) aG))
   (aB (bS (aP dL (pv 4) aG (aW _)) (aE (aV (aJ C__law_digit_words hr aS (aA (aJ C__law_cell_at hr aS (aA (pv 0) (aA (aQ dJ (pv 1) aG) aC))) (aA (pv 2) aC))))) aY)
   (aB (aI (i:=5) aX.nd rfl (Or.inl rfl) (aQ iK (aJ C__law_cell_at hr aS (aA (pv 0) (aA (aQ dJ (pv 1) aG) aC))) aG))
   (aB (bS (PW.pt (tT (aP dL (pv 4) aG (aW _)) (nO (aP lY (aL aN (by rfl) tt.b_len a0 (aA (pv 3) aC)) aG (aW _))))) (aE (aI (i:=3) aX.nd rfl (Or.inl rfl) (bA eP (pv 3) (bJ aG) bN))) aY)
   (aB (bS (aP dL (pv 4) aG (aW _)) (aB (aI (i:=5) aX.nd rfl (Or.inl rfl) (aQ cT (pv 5) (aQ Wy aG aG)))
   (aE (cM PassesOwn.never rfl (gP (by rfl) tt.b_range (aA (aQ dJ aG (aQ cT (pv 5) aG)) aC)) (bK (i:=6) aX.nd rfl (Or.inl rfl)) (aB (aI (i:=7) aX.nd rfl (Or.inl rfl) (bT [] (by decide +kernel)))
   (aB (cM PassesOwn.never rfl (gP (by rfl) tt.b_range (aA (aL dP (by rfl) tt.b_len a0 (aA (cL cG (pv 3) aG (fun _ _=>rfl)) aC)) aC)) (bK (i:=8) aX.nd rfl (Or.inl rfl)) (aB (aI (i:=9) aX.nd rfl (Or.inl rfl) (aQ iK (aQ dJ (pv 5) (aQ mM (pv 6) (pv 6))) (aQ dJ (aQ dJ (aQ dJ (aQ mM (aQ mM aG (pv 8)) (pv 8)) (aQ mM aG (pv 8))) (aQ mM aG (pv 6))) aG)))
   (aE (aI (i:=7) aX.nd rfl (Or.inl rfl) (aQ gB (pv 7) (cL Kf (bT [97,98,99,100,101,102] (by decide +kernel)) (aQ cT (pv 9) aG) (fun _ _=>rfl)))))))
   (aE (bS (aP jK (pv 7) (pv 3) (by with_unfolding_all rfl)) (aE (aI (i:=3) aX.nd rfl (Or.inl rfl) (aQ iB (pv 3) (cJ (aA (pv 7) aC))))) aY))))))) aY)
   (aB (bS (PW.pt (tT (aP dL (pv 4) aG (aW _)) (nO (aP lY (aL aN (by rfl) tt.b_len a0 (aA (pv 3) aC)) aG (aW _))))) (aB (aI (i:=3) aX.nd rfl (Or.inl rfl) (aQ iB (bA eP (pv 3) bN (bJ (aQ cT (pv 5) (aL aN (by rfl) tt.b_len a0 (aA (pv 3) aC))))) (bA eP (pv 3) (bJ (aQ dJ (aQ cT (pv 5) (aL aN (by rfl) tt.b_len a0 (aA (pv 3) aC))) aG)) bN)))
   (aE (aI (i:=3) aX.nd rfl (Or.inl rfl) (aQ iB (bA eP (pv 3) bN (bJ (aQ cT (aQ iK (pv 5) aG) (aL aN (by rfl) tt.b_len a0 (aA (pv 3) aC))))) (bA eP (pv 3) (bJ (aQ dJ (aQ cT (aQ iK (pv 5) aG) (aL aN (by rfl) tt.b_len a0 (aA (pv 3) aC))) aG)) bN))))) aY)
   (aE (aV (pv 3)))))))))),?_⟩
  (try rw[cP]);(try rw[cxK1])
  refine⟨_,rfl,_,rfl,_,rfl,a,ns,rfl,hS,fun p ls n H1 s1 hd hwl hn hne hl=>?_⟩;refine⟨_,rfl,_,rfl,a,ns,0,rfl,s1.seq hS,_,_,rfl,rfl,⟨by decide,by decide⟩,_,_,rfl,rfl,(by show (0:Int)<5;decide),?_⟩
  dsimp only
  generalize ns.getD 0 0/7 % 5=wy;refine⟨_,rfl,_,rfl,_,rfl,_,rfl,?_⟩;refine fZ (fun h4=>?_) (fun h4=>?_)
  ·exact⟨_,rfl,_,rfl,_,_,rfl,rfl,a,ns,1,rfl,s1.seq hS,_,rfl,_,rfl,fun D ls2 n2 H2 s2 hd2 hw2 hn2 hne2 hl2=>q D ls2 n2 H2 (s1.trans s2) hd2 hw2 hn2 hne2 (by omega)⟩
  refine⟨_,rfl,_,rfl,_,_,rfl,rfl,a,ns,1,rfl,s1.seq hS,_,_,rfl,rfl,⟨by decide,by decide⟩,?_⟩
  dsimp only
  generalize ns.getD 1 0/8=dr;refine⟨_,rfl,_,rfl,_,rfl,_,rfl,?_⟩;refine fZ (fun h1=>?a) (fun h1=>?b)
  case' a =>
   refine⟨_,rfl,p,_,rfl,.inl (SqL.of hd),_,_,rfl,rfl,_,rfl,?_⟩;rw[aR];refine fZ (fun h2=>?a1) (fun h2=>?a2)
  case' a1 =>
   have h2':1<ls.length:=by have:=of_decide_eq_true h2;omega
   refine⟨_,rfl,_,rfl,p,_,rfl,SqL.of hd,fun p3 hp3=>?_⟩;rw[show dE (ls.map T) (some 1) none=(ls.drop 1).map T from iV (k:=1) (by omega)];obtain⟨H3,hH3,s3,hd3⟩:=yD (s1.trans (aH (o:=.lst ((ls.drop 1).map T)) hp3));rw[<- hH3];obtain⟨ls3,hd3,hw3,hne3,hl3⟩:∃ ls3:List (List Nat),H3 p3=some (.lst (ls3.map T))∧WL ls3 n∧ls3≠[]∧ls3.length<=7:=⟨ls.drop 1,hd3,hwl.sub (r8 _ _),(fun z=>by have:=congrArg gi z;rw[a9] at this;simp at this;omega),by rw[a9];omega⟩
  case' a2 =>
   obtain⟨H3,hH3,s3⟩:=Qo s1;rw[<- hH3];obtain⟨p3,hp3,ls3,hd3,hw3,hne3,hl3⟩:∃ p3,p3=p∧∃ ls3:List (List Nat),H3 p3=some (.lst (ls3.map T))∧WL ls3 n∧ls3≠[]∧ls3.length<=7:=⟨p,rfl,ls,by rw[hH3];exact hd,hwl,hne,hl⟩;rw[<- hp3]
  case' b =>
   obtain⟨H3,hH3,s3⟩:=Qo s1;rw[<- hH3];obtain⟨p3,hp3,ls3,hd3,hw3,hne3,hl3⟩:∃ p3,p3=p∧∃ ls3:List (List Nat),H3 p3=some (.lst (ls3.map T))∧WL ls3 n∧ls3≠[]∧ls3.length<=7:=⟨p,rfl,ls,by rw[hH3];exact hd,hwl,hne,hl⟩;rw[<- hp3]
  all_goals
   refine⟨_,rfl,_,rfl,_,rfl,_,rfl,?_⟩;refine fZ (fun h5=>?_) (fun h5=>?_)
   rotate_left
   ·have h40:=hl3
    refine⟨_,rfl,_,rfl,_,rfl,_,rfl,?_⟩;refine fZ (fun h7=>?_) (fun h7=>?_)
    ·refine⟨_,rfl,p3,_,rfl,.inl (SqL.of hd3),_,_,rfl,rfl,_,rfl,?_⟩
     rw[aR];refine fZ (fun h8=>?_) (fun h8=>?_)
     ·have h2:2<ls3.length:=by have:=of_decide_eq_true h8;omega
      obtain⟨m,hm,hml⟩:=To (dr) (show 0<(ls3.map T).length by rw[aR];omega);rw[aR] at hml;have c1:dE (ls3.map T) none (some (dr % (((ls3.map T).length:Nat):Int)))=(ls3.take m).map T:=by rw[hm];exact rH (by omega)
      have c2:dE (ls3.map T) (some (dr % (((ls3.map T).length:Nat):Int)+1)) none=(ls3.drop (m+1)).map T:=by rw[hm];exact iV (k:=m+1) (by omega)
      refine⟨_,rfl,_,rfl,_,rfl,p3,_,rfl,.inl (SqL.of hd3),_,_,rfl,rfl,(by show (0:Int)<(((ls3.map T).length:Nat):Int);rw[aR];omega),_,rfl,p3,_,rfl,SqL.of hd3,fun q1 hq1=>?_⟩;rw[c1];have t1:=aH (o:=.lst ((ls3.take m).map T)) hq1;refine⟨_,rfl,_,rfl,_,rfl,p3,_,rfl,.inl (SqL.of (t1 p3 _ hd3)),_,_,rfl,rfl,(by show (0:Int)<(((ls3.map T).length:Nat):Int);rw[aR];omega),_,_,rfl,rfl,_,rfl,p3,_,rfl,SqL.of (t1 p3 _ hd3),fun q2 hq2=>?_⟩;rw[c2];have t2:=aH (o:=.lst ((ls3.drop (m+1)).map T)) hq2;refine⟨q1,q2,_,_,rfl,rfl,SqL.of (t2 q1 _ aD),SqL.of aD,(by rw[aR,aR,a6,a9];omega),fun q3 hq3=>?_⟩;have t3:=t1.trans (t2.trans (aH (o:=.lst ((ls3.take m).map T++(ls3.drop (m+1)).map T)) hq3));obtain⟨H8,hH8,t3,hd8⟩:=yD t3;rw[<- hH8];obtain⟨ms,hms,hsub,hmsl⟩:∃ ms:List (List Nat),(ls3.take m).map T++(ls3.drop (m+1)).map T=ms.map T∧ms.Sublist ls3∧ms.length=ls3.length-1:=⟨ls3.take m++ls3.drop (m+1),by rw[bc],rK _ _,by rw[ak,a6,a9];omega⟩;rw[hms] at hd8;obtain⟨m',hm',hml'⟩:=To (dr/7) (show 0<(ms.map T).length by rw[aR];omega);rw[aR] at hml';have c3:dE (ms.map T) none (some (dr/7 % (((ms.map T).length:Nat):Int)))=(ms.take m').map T:=by rw[hm'];exact rH (by omega)
      have c4:dE (ms.map T) (some (dr/7 % (((ms.map T).length:Nat):Int)+1)) none=(ms.drop (m'+1)).map T:=by rw[hm'];exact iV (k:=m'+1) (by omega)
      refine⟨_,rfl,_,rfl,_,_,rfl,rfl,⟨by decide,by decide⟩,_,rfl,q3,_,rfl,.inl (SqL.of hd8),_,_,rfl,rfl,(by show (0:Int)<(((ms.map T).length:Nat):Int);rw[aR];omega),_,rfl,q3,_,rfl,SqL.of hd8,fun q4 hq4=>?_⟩;rw[c3];have t4:=aH (o:=.lst ((ms.take m').map T)) hq4;refine⟨_,rfl,_,rfl,_,_,rfl,rfl,⟨by decide,by decide⟩,_,rfl,q3,_,rfl,.inl (SqL.of (t4 q3 _ hd8)),_,_,rfl,rfl,(by show (0:Int)<(((ms.map T).length:Nat):Int);rw[aR];omega),_,_,rfl,rfl,_,rfl,q3,_,rfl,SqL.of (t4 q3 _ hd8),fun q5 hq5=>?_⟩;rw[c4];have t5:=aH (o:=.lst ((ms.drop (m'+1)).map T)) hq5;refine⟨q4,q5,_,_,rfl,rfl,SqL.of (t5 q4 _ aD),SqL.of aD,(by rw[aR,aR,a6,a9];omega),fun q6 hq6=>?_⟩;have t6:=t4.trans (t5.trans (aH (o:=.lst ((ms.take m').map T++(ms.drop (m'+1)).map T)) hq6));have hl9:(ms.take m'++ms.drop (m'+1)).length=ms.length-1:=by rw[ak,a6,a9];omega
      exact⟨_,rfl,q q6 (ms.take m'++ms.drop (m'+1)) n _ ((s3).trans (t3.trans t6)) (by rw[bc];exact aD) ((hw3).sub ((rK _ _).trans hsub)) hn (fun z=>by rw[z] at hl9;simp at hl9;omega) (by omega)⟩
     ·exact⟨_,rfl,q p3 ls3 n _ s3 hd3 hw3 hn hne3 (by omega)⟩
    ·exact⟨_,rfl,q p3 ls3 n _ s3 hd3 hw3 hn hne3 (by omega)⟩
   refine⟨_,rfl,_,_,rfl,rfl,⟨by decide,by decide,by decide⟩,_,_,rfl,rfl,(by show (0:Int)<10 ^ 9;decide),?_⟩
   dsimp only
   generalize dr % 10 ^ Int.toNat 9=d2;refine⟨_,rfl,_,_,rfl,rfl,(by show (0:Int)<3;decide),_,_,rfl,rfl,_,rfl,by omega,by omega,?_⟩;obtain⟨N,hN,hN3⟩:∃ N:Nat,1+d2 % 3=(N:Int)∧N<=3:=⟨(1+d2 % 3).toNat,by omega,by omega⟩;rw[hN,cu];refine fQ (fun i σ Hk=>aK H Hk∧∃ (pk:Addr) (lk:List (List Nat)) (v6 v7 v8 v9:Option V),Hk pk=some (.lst (lk.map T))∧WL lk n∧lk≠[]∧lk.length<=7+i∧σ=[some (.ref a),some (.int 0),some (.int 7),some (.ref pk),some (.int wy),some (.int d2),v6,v7,v8,v9])
    ⟨s3,p3,ls3,none,none,none,none,hd3,hw3,hne3,by omega,rfl⟩ ?_ ?_
   ·rintro i σ Hk hi ⟨sk,pk,lk,v6,v7,v8,v9,hdk,hwk,hnek,hlk,rfl⟩
    obtain⟨m0,hm0⟩:∃ m0,lk[0]?=some m0:=⟨_,aa (cn.mpr hnek)⟩;have hm0l:=(hwk.1 m0 (au hm0)).1;refine⟨_,rfl,pk,_,_,_,rfl,rfl,SqL.of hdk,bO (j:=0) (by rw[ah,hm0];rfl),_,rfl,(by omega),_,rfl,by omega,by omega,?_⟩;rw[hm0l,cu];refine fQ (fun j σ Hj=>Hk=Hj∧∃ (t:List Nat) (v8 v9:Option V),t.length=j∧Abc t∧σ=[some (.ref a),some (.int 0),some (.int 7),some (.ref pk),some (.int wy),some (.int d2),some (.int (0+(i:Int))),some (T t),v8,v9])
     ⟨rfl,[],v8,v9,rfl,(fun c hc=>by simp at hc),rfl⟩ ?_ ?_
    ·rintro j σ Hj hj ⟨rfl,t,v8,v9,ht,hab,rfl⟩
     obtain⟨sq,hsq,sq0,sq1⟩:∃ sq:Int,3*(0+(j:Int))*(0+(j:Int))=sq∧0<=sq∧sq<=75:=by
      rcases (show j=0∨j=1∨j=2∨j=3∨j=4 by omega) with rfl | rfl | rfl | rfl | rfl <;> exact⟨_,rfl,by decide,by decide⟩
     refine⟨_,rfl,_,rfl,_,rfl,_,_,rfl,rfl,.inl ⟨by omega,by omega⟩,_,_,rfl,rfl,_,rfl,_,_,rfl,rfl,.inl ⟨by decide,by decide⟩,_,rfl,_,_,rfl,rfl,.inl ⟨by omega,by omega⟩,_,rfl,_,_,rfl,rfl,.inl ⟨by decide,by decide⟩,_,_,rfl,rfl,_,rfl,_,_,rfl,rfl,.inl ⟨by decide,by decide⟩,_,_,rfl,rfl,_,_,rfl,rfl,_,_,rfl,rfl,
      ⟨(by show (0:Int)<3*(0+(j:Int))*(0+(j:Int))+5*(0+(j:Int))+7*(0+(i:Int))+1;rw[hsq];omega),(by show 3*(0+(j:Int))*(0+(j:Int))+5*(0+(j:Int))+7*(0+(i:Int))+1<(1073741824:Int);rw[hsq];omega)⟩,?_⟩
     dsimp only
     generalize (d2+(0+(i:Int))*(0+(i:Int)))/(3*(0+(j:Int))*(0+(j:Int))+5*(0+(j:Int))+7*(0+(i:Int))+1)=pt;obtain⟨c,hc,c0,c1⟩:=Mw (dk pt (show (6:Int)≠0 by decide)) (cx pt (show (0:Int)<6 by decide));refine⟨_,rfl,_,rfl,_,_,rfl,rfl,(by show (0:Int)<6;decide),_,rfl,_,rfl,(by show 6<=sizeLine;omega),c,hc,_,rfl,_,rfl,(by show t.length+1<=sizeLine;omega),?_⟩;refine⟨rfl,t++[c],some (.int (0+(j:Int))),some (.int pt),by rw[ak,ht];rfl,fun e he=>?_,rfl⟩;rcases bu.mp he with g | g
     ·exact hab e g
     ·have e':e=c:=by simpa using g
      subst e';exact⟨c0,c1⟩
    ·rintro σ Hj ⟨rfl,t,v8,v9,ht,hab,rfl⟩
     refine⟨_,rfl,_,rfl,pk,_,rfl,.inl (SqL.of hdk),rfl,hU lk,_,rfl,?_⟩;refine fZ (fun h0=>?_) (fun h0=>?_)
     ·have hni:¬ t∈lk:=fun z=>by
       have h1:(!inV (T t) (lk.map T))=true:=h0;rw[uT,decide_eq_true z] at h1;cases h1
      refine⟨_,rfl,_,rfl,(by show 1<=sizeLine;omega),fun q1 hq1=>?_⟩;have t1:=aH (o:=.lst [T t]) hq1;refine⟨pk,q1,_,_,rfl,rfl,SqL.of (t1 pk _ hdk),SqL.of aD,(by rw[aR];show _+1<=sizeLine;omega),fun q2 hq2=>?_⟩;exact⟨sk.trans (t1.trans (aH hq2)),q2,lk++[t],some (.int (0+(i:Int))),some (T t),v8,v9,by rw[bc];exact aD,hwk.snoc ⟨ht,hab⟩ hni,by simp,by rw[ak,b7];omega,rfl⟩
     ·exact⟨sk,pk,lk,some (.int (0+(i:Int))),some (T t),v8,v9,hdk,hwk,hnek,by omega,rfl⟩
   ·rintro σ Hk ⟨sk,pk,lk,v6,v7,v8,v9,hdk,hwk,hnek,hlk,rfl⟩
    refine⟨_,rfl,_,rfl,_,rfl,_,rfl,?_⟩;refine fZ (fun h7=>?_) (fun h7=>?_)
    ·refine⟨_,rfl,pk,_,rfl,.inl (SqL.of hdk),_,_,rfl,rfl,_,rfl,?_⟩
     rw[aR];refine fZ (fun h8=>?_) (fun h8=>?_)
     ·have h2:2<lk.length:=by have:=of_decide_eq_true h8;omega
      obtain⟨m,hm,hml⟩:=To (d2) (show 0<(lk.map T).length by rw[aR];omega);rw[aR] at hml;have c1:dE (lk.map T) none (some (d2 % (((lk.map T).length:Nat):Int)))=(lk.take m).map T:=by rw[hm];exact rH (by omega)
      have c2:dE (lk.map T) (some (d2 % (((lk.map T).length:Nat):Int)+1)) none=(lk.drop (m+1)).map T:=by rw[hm];exact iV (k:=m+1) (by omega)
      refine⟨_,rfl,_,rfl,_,rfl,pk,_,rfl,.inl (SqL.of hdk),_,_,rfl,rfl,(by show (0:Int)<(((lk.map T).length:Nat):Int);rw[aR];omega),_,rfl,pk,_,rfl,SqL.of hdk,fun q1 hq1=>?_⟩;rw[c1];have t1:=aH (o:=.lst ((lk.take m).map T)) hq1;refine⟨_,rfl,_,rfl,_,rfl,pk,_,rfl,.inl (SqL.of (t1 pk _ hdk)),_,_,rfl,rfl,(by show (0:Int)<(((lk.map T).length:Nat):Int);rw[aR];omega),_,_,rfl,rfl,_,rfl,pk,_,rfl,SqL.of (t1 pk _ hdk),fun q2 hq2=>?_⟩;rw[c2];have t2:=aH (o:=.lst ((lk.drop (m+1)).map T)) hq2;refine⟨q1,q2,_,_,rfl,rfl,SqL.of (t2 q1 _ aD),SqL.of aD,(by rw[aR,aR,a6,a9];omega),fun q3 hq3=>?_⟩;have t3:=t1.trans (t2.trans (aH (o:=.lst ((lk.take m).map T++(lk.drop (m+1)).map T)) hq3));obtain⟨H8,hH8,t3,hd8⟩:=yD t3;rw[<- hH8];obtain⟨ms,hms,hsub,hmsl⟩:∃ ms:List (List Nat),(lk.take m).map T++(lk.drop (m+1)).map T=ms.map T∧ms.Sublist lk∧ms.length=lk.length-1:=⟨lk.take m++lk.drop (m+1),by rw[bc],rK _ _,by rw[ak,a6,a9];omega⟩;rw[hms] at hd8;obtain⟨m',hm',hml'⟩:=To (d2/7) (show 0<(ms.map T).length by rw[aR];omega);rw[aR] at hml';have c3:dE (ms.map T) none (some (d2/7 % (((ms.map T).length:Nat):Int)))=(ms.take m').map T:=by rw[hm'];exact rH (by omega)
      have c4:dE (ms.map T) (some (d2/7 % (((ms.map T).length:Nat):Int)+1)) none=(ms.drop (m'+1)).map T:=by rw[hm'];exact iV (k:=m'+1) (by omega)
      refine⟨_,rfl,_,rfl,_,_,rfl,rfl,⟨by decide,by decide⟩,_,rfl,q3,_,rfl,.inl (SqL.of hd8),_,_,rfl,rfl,(by show (0:Int)<(((ms.map T).length:Nat):Int);rw[aR];omega),_,rfl,q3,_,rfl,SqL.of hd8,fun q4 hq4=>?_⟩;rw[c3];have t4:=aH (o:=.lst ((ms.take m').map T)) hq4;refine⟨_,rfl,_,rfl,_,_,rfl,rfl,⟨by decide,by decide⟩,_,rfl,q3,_,rfl,.inl (SqL.of (t4 q3 _ hd8)),_,_,rfl,rfl,(by show (0:Int)<(((ms.map T).length:Nat):Int);rw[aR];omega),_,_,rfl,rfl,_,rfl,q3,_,rfl,SqL.of (t4 q3 _ hd8),fun q5 hq5=>?_⟩;rw[c4];have t5:=aH (o:=.lst ((ms.drop (m'+1)).map T)) hq5;refine⟨q4,q5,_,_,rfl,rfl,SqL.of (t5 q4 _ aD),SqL.of aD,(by rw[aR,aR,a6,a9];omega),fun q6 hq6=>?_⟩;have t6:=t4.trans (t5.trans (aH (o:=.lst ((ms.take m').map T++(ms.drop (m'+1)).map T)) hq6));have hl9:(ms.take m'++ms.drop (m'+1)).length=ms.length-1:=by rw[ak,a6,a9];omega
      exact⟨_,rfl,q q6 (ms.take m'++ms.drop (m'+1)) n _ ((sk).trans (t3.trans t6)) (by rw[bc];exact aD) ((hwk).sub ((rK _ _).trans hsub)) hn (fun z=>by rw[z] at hl9;simp at hl9;omega) (by omega)⟩
     ·exact⟨_,rfl,q pk lk n _ sk hdk hwk hn hnek (by omega)⟩
    ·exact⟨_,rfl,q pk lk n _ sk hdk hwk hn hnek (by omega)⟩
def Hd:Sp:=fun vs H Q _=>∃ x:Int,vs=[.int x,.int x]∧Q (.bl true) H
theorem vA {f:Addr}{fd:FuncData}(F:Fun K "_law_whole" "_law_whole" jR f fd)(tt:Txt K mg ad):bW P w K mg base (CX1 P w) 1 f fd ["found", "due"] Hd:=by
 refine F.okN vK (fun vs H Q E h=>?_) (fun cdv A outer s H vs Q E hr h=>?_)
 ·obtain⟨x,rfl,_⟩:=h
  rfl
 ·obtain⟨x,rfl,q⟩:=h
  refine⟨_,(aE (aV (Ny (aL qG (by rfl) tt.b_isinstance mf (aA (pv 0) (aA (Io (v:=.ty "int") (u:=.type "int") (by rfl) tt.b_int (by decide +kernel) rfl) aC))) (Ny (Vu (aL qG (by rfl) tt.b_isinstance mf (aA (pv 0) (aA (Io (v:=.ty "bool") (u:=.type "bool") (by rfl) tt.b_bool (by decide +kernel) rfl) aC)))) (Wg (Gm dL (pv 0) (pv 1) (aW _))))))),?_⟩
  (try rw[cP]);(try rw[cxK1])
  refine⟨_,rfl,_,_,_,_,rfl,.int _,Pf _,_,rfl,vD ?_⟩;refine⟨_,rfl,_,_,_,_,rfl,.int _,yV,_,rfl,_,rfl,vD ?_⟩;refine⟨_,rfl,_,rfl,_,rfl,_,rfl,?_⟩;rw[decide_eq_true rfl];exact q
theorem Nw {α β γ:Type}{R:α->β->Prop}{as:List α}{bs:List β}(f:β->γ)(h:Dt.R2 R as bs):Dt.R2 (fun a c=>∃ b,c=f b∧R a b) as (bs.map f):=by
 induction h with
 | nil=>exact .nil
 | cons r _ ih=>exact .cons ⟨_,rfl,r⟩ ih
theorem Mq {α β γ:Type}{R:α->β->Prop}{as:List α}{bs:List β}{S:γ->β->Prop}(f:α->γ)(h:Dt.R2 R as bs)(e:∀ a b,R a b->S (f a) b):Dt.R2 S (as.map f) bs:=by
 induction h with
 | nil=>exact .nil
 | cons r _ ih=>exact .cons (e _ _ r) ih
theorem Mh {α β γ:Type}{R:α->β->Prop}{S:β->γ->Prop}{as:List α}{bs:List β}(h:Dt.R2 R as bs):∀ {cs:List γ},Dt.R2 S bs cs->Dt.R2 (fun a c=>∃ b,R a b∧S b c) as cs:=by
 induction h with
 | nil=>intro cs h2;cases h2;exact .nil
 | cons r _ ih =>
  intro cs h2
  cases h2 with
  | cons r2 h2=>exact .cons ⟨_,r,r2⟩ (ih h2)
theorem Rx {α β:Type}{R:α->β->Prop}{as as':List α}{bs bs':List β}(h:Dt.R2 R as bs)(h':Dt.R2 R as' bs'):Dt.R2 R (as++as') (bs++bs'):=by
 induction h with
 | nil=>exact h'
 | cons r _ ih=>exact .cons r ih
theorem zC:∀ {k:Nat} {E:List (List Nat)} {a b:List Nat},E.Nodup->E.length=k->(Dt.cH k E a b).length<=Dt.fct k
 | 0,E,a,b,_,_=>by
  show (if a=b then [[]] else ([]:List (List (List Nat)))).length<=1;split <;> simp
 | k+1,E,a,b,hn,h=>by
  show ((Dt.og E a).flatMap fun w=>(Dt.cH k (Dt.rm E w) (Wd.fin w) b).map fun us=>w::us).length<=(k+1)*Dt.fct k;have hog:(Dt.og E a).length<=k+1:=av (cq ..) (by omega);have key:∀ l:List (List Nat),(∀ w∈l,w∈E)->(l.flatMap fun w=>(Dt.cH k (Dt.rm E w) (Wd.fin w) b).map fun us=>w::us).length<=l.length*Dt.fct k:=fun l=>by
   induction l with
   | nil=>intro _;simp
   | cons w l ih =>
    intro hl;rw[cm,ak,aR,aq,g8,fo,iq]
    have:=Dt.dQ hn (hl w (al ..))
    exact mw (ih fun x hx=>hl x (aj _ hx)) (zC (Dt.dH hn) (by omega))
  exact av (key _ fun w hw=>(Dt.cD.mp hw).1) (fq _ hog)
theorem Vb {k:Nat}(h:k<=10):Dt.fct k<=3628800:=by
 have h1:∀ n m,n<=m->Dt.fct n<=Dt.fct m:=fun n m h=>by
  induction h with
  | refl=>exact af _
  | @step m _ ih=>exact av ih (Dt.sC (m+1))
 exact av (h1 k 10 h) (by decide)
def By (K:ae)(d:Nat):Sp:=fun vs H Q _=>∃ (a:Addr) (ms:List (List Nat)) (here goal:List Nat),vs=[.ref a,T here,T goal]∧SqL K H a (ms.map T)∧ms.Nodup∧(ms.length<d∧d<=12)∧ms.length<=10∧(∀ x∈ms,1<=x.length∧x.length<=1000) ∧
 ∀ (so:List (List Nat)) (D:Addr) (bs:List Addr) (H':Hp),so.Perm ms->so.Pairwise (fun a b=>¬ b<a)->H D=none->aK H H'->H' D=some (.lst (bs.map V.ref))->Dt.R2 (fun us b=>b≠D∧H b=none∧H' b=some (.lst (us.map T))) (Dt.cH ms.length so here goal) bs->Q (.ref D) H'
theorem tK {f:Addr}{fd:FuncData}(d:Nat)(F:Fun K "_law_orders" "_law_orders" dW f fd)(tt:Txt K mg ad)(C__law_orders:Cal P w K mg base (CX1 P w) "_law_orders" (d+1) ["words", "here", "goal"] (By K d)):bW P w K mg base (CX1 P w) (d+2) f fd ["words", "here", "goal"] (By K (d+1)):=by
 refine F.okN eY (fun vs H Q E h=>?_) (fun cdv A outer s H vs Q E hr h=>?_)
 ·obtain⟨a,ms,here,goal,rfl,_⟩:=h
  rfl
 ·obtain⟨a,ms,here,goal,rfl,hS,hnd,⟨hd1,hd2⟩,hm7,hx,q⟩:=h
  have hs:sizeLine=16777216:=sizeLine_eq;refine⟨_,(aB (bS (aP dL (aL aN (by rfl) tt.b_len a0 (aA (pv 0) aC)) aG (aW _)) (aE (aV (Ch (aP mZ (pv 1) (pv 2) (aW _)) (cJ (aA (cJ aC) aC)) (cJ aC)))) aY)
   (aB (aI (i:=3) eY.nd rfl (Or.inl rfl) (cJ aC))
   (aB (cM PassesOwn.never rfl (bH (aL gH (by rfl) tt.b_sorted di (aA (pv 0) aC))) (bK (i:=4) eY.nd rfl (Or.inr rfl)) (aE (bS (aP mZ (bA lR (pv 4) bN (bJ (mF iO aG))) (pv 1) (aW _)) (aB (dF (i:=5) pX rfl (bH (pv 0)) (fun cl C s' H' fp=>(aP jV (pv 0) (pv 5) (aW _))) (fun cl C s' H' fp=>(pv 0)) eY.nd rfl rfl)
   (aE (fB (qC dv nr nu xD (pv 3) (aA (cV pM rfl (bH (aJ C__law_orders hr aS (aA (pv 5) (aA (bA lR (pv 4) (bJ aG) bN) (aA (pv 2) aC))) (af _))) (fun cl C s' H' fp=>(aQ (Cd K rfl) (cJ (aA (pv 5) aC)) (pv 0)))) aC))))) aY)))
   (aE (aV (pv 3)))))),?_⟩
  (try rw[cP]);(try rw[cxK1])
  refine⟨_,rfl,a,_,rfl,.inl hS,_,rfl,_,rfl,_,rfl,?_⟩;rw[aR];by_cases h0:ms.length=0
  ·refine itP (decide_eq_true (by omega)) ?_
   obtain rfl:=bh.mp h0;refine⟨_,rfl,_,rfl,_,rfl,_,rfl,_,rfl,?_⟩;by_cases hg:here=goal
   ·refine itP (decide_eq_true hg) ?_
    refine⟨(by show 0<=sizeLine;omega),fun e he=>?_⟩;have s1:=aH (o:=.lst []) he;refine⟨(by show 1<=sizeLine;omega),fun D hD=>?_⟩;have s2:=aH (o:=.lst [.ref e]) hD;refine q [] D [e] _ .nil .nil (gC s1 hD) (s1.trans s2) aD ?_;show Dt.R2 _ (if here=goal then [[]] else []) _;rw[if_pos hg];exact .cons ⟨fun z=>(by rw[<- z,aD] at hD;cases hD),he,s2 e _ aD⟩ .nil
   ·refine itN (fun z=>hg (of_decide_eq_true z)) ?_
    refine⟨(by show 0<=sizeLine;omega),fun D hD=>?_⟩;refine q [] D [] _ .nil .nil hD (aH hD) aD ?_;show Dt.R2 _ (if here=goal then [[]] else []) _;rw[if_neg hg];exact .nil
  ·refine itN (fun z=>h0 (by have:=of_decide_eq_true z;omega)) ?_
   obtain⟨n,hn⟩:∃ n,ms.length=n+1:=⟨ms.length-1,by omega⟩;refine⟨(by show 0<=sizeLine;omega),fun D hD=>?_⟩;have sD:=aH (o:=.lst []) hD;have hDD:upd H D (.lst []) D=some (.lst []):=aD;have hS1:=sD.seq hS;generalize upd H D (.lst [])=H1 at sD hDD hS1;refine⟨_,rfl,a,ms,rfl,hS1,by omega,fun so S hSn hp hw=>?_⟩;have sS:=aH (o:=.lst (so.map T)) hSn;have hSS:upd H1 S (.lst (so.map T)) S=some (.lst (so.map T)):=aD;have hDS:=sS D _ hDD;have hSD:S≠D:=fun z=>by rw[z,hDD] at hSn;cases hSn
   have sHS:=sD.trans sS;generalize upd H1 S (.lst (so.map T))=Hs at sS hSS hDS sHS;have nds:so.Nodup:=hp.nodup_iff.mpr hnd;have hsl:so.length=n+1:=by rw[hp.length_eq,hn]
   have hxs:∀ x∈so,1<=x.length∧x.length<=1000:=fun x hxx=>hx x (hp.mem_iff.mp hxx)
   have hSk:∀ {G},Kp D Hs G->SqL K G a (ms.map T):=fun {G} k=>SqL.keepTwo hS fun o e=>k a o (aO e hD) (sHS a o e)
   have cap:(Dt.cH (n+1) so here goal).length<=3628800:=av (zC nds hsl) (Vb (by omega));refine⟨S,rfl,⟨_,SqL.of hSS⟩,?_⟩;refine dA (K:=K) (a:=S) (xs:=so.map T) (fun i σ G=>Kp D Hs G∧∃ (bs:List Addr) (v4 v5:Option V),G D=some (.lst (bs.map V.ref))∧Dt.R2 (fun us b=>b≠D∧H b=none∧G b=some (.lst (us.map T))) (((so.take i).filter fun w=>decide (Wd.beg w=here)).flatMap fun w=>(Dt.cH n (Dt.rm so w) (Wd.fin w) goal).map fun us=>w::us) bs∧σ=[some (.ref a),some (T here),some (T goal),some (.ref D),v4,v5]) ⟨fun b o _ e=>e,[],none,none,hDS,.nil,rfl⟩ (fun i σ G _ h=>SqL.of (h.1 S _ hSD hSS)) ?_ ?_
   ·rintro i y σ G hi ⟨kG,bs,v4,v5,hGD,hR,rfl⟩
    obtain⟨x,hxi,rfl⟩:∃ x,so[i]?=some x∧T x=y:=by rw[ah] at hi;exact ba.mp hi
    have hxm:=au hxi;have hxx:=hxs x hxm;have htk:so.take (i+1)=so.take i++[x]:=by rw[ca,hxi];rfl
    have cb:fP x none (some (-(1:Int)))=Wd.beg x:=iZ hxx.1;have ce:fP x (some 1) none=Wd.fin x:=jD (k:=1) hxx.1;refine⟨_,rfl,_,rfl,_,rfl,_,rfl,(by omega),_,rfl,_,rfl,_,rfl,_,rfl,?_⟩;rw[cb];by_cases hb:Wd.beg x=here
    ·refine itP (decide_eq_true hb) ?_
     refine⟨_,rfl,a,rfl,⟨_,hSk kG⟩,?_⟩;refine gZ (fun v=>!decide (unT v=x)) (fun v=>v) (bC (hSk kG)) (by rw[aR];omega) (fun v G2 hv s2 N hN=>?_) (fun v G2 hv hpv s2 N hN=>?_) fun E5 G5 hE5 s5 hd5=>?_
     ·obtain⟨l,hl,rfl⟩:=ao.mp hv
      have z:=hN G2 (aK.refl _);rw[cS] at z;exact⟨_,rfl,_,rfl,_,rfl,_,rfl,_,rfl,z⟩
     ·exact⟨_,rfl,hN G2 (aK.refl _)⟩
     rw[show (ms.map T).filter (fun v=>!decide (unT v=x))=(ms.filter fun l=>!decide (l=x)).map T from cO (p:=fun l=>!decide (l=x)) ms,ml] at hd5;have hE5D:E5≠D:=fun z=>by rw[z,hGD] at hE5;cases hE5
     have hxms:=hp.mem_iff.mp hxm;have hlm:(Dt.rm ms x).length=n:=by have:=Dt.dQ hnd hxms;omega
     refine⟨_,rfl,.inl ⟨rfl,_,SqL.of (s5 D _ hGD)⟩,_,rfl,_,rfl,_,rfl,_,rfl,(by omega),_,rfl,E5,Dt.rm ms x,Wd.fin x,goal,(by rw[ce];rfl),SqL.of hd5,Dt.dH hnd,⟨by omega,by omega⟩,by omega,fun z hz=>hx z (Dt.dY.mp hz).1,fun so' D' bs' G6 hp' hw' hD' s6 hd6 hR6=>?_⟩;obtain rfl:so'=Dt.rm so x:=Wd.dI (hp'.trans (hp.symm.filter _)) hw' (hw.filter _);rw[hlm] at hR6;have hlx:(Dt.rm so x).length=n:=by have:=Dt.dQ nds hxm;omega
     have hbl6:bs'.length<=3628800:=by
      rw[<- hR6.len];exact av (zC (Dt.dH nds) hlx) (Vb (by omega))
     refine⟨D',rfl,⟨_,SqL.of hd6⟩,?_⟩;have hat:∀ v∈bs'.map V.ref,∃ (b:Addr) (us:List (List Nat)),v = .ref b∧us.length<=10∧G6 b=some (.lst (us.map T)):=fun v hv=>by
      obtain⟨b,hb,rfl⟩:=ao.mp hv;obtain⟨i,hi⟩:=fu hb;obtain⟨us,h1,h2⟩:=hR6.get hi;have h3:=((Dt.eG (by have:=Dt.dQ nds hxm;omega) (Dt.dH nds)).mp (au h1)).1.length_eq;exact⟨b,us,rfl,by have:=Dt.dQ nds hxm;omega,h2.2.2⟩
     refine Yj (fun v=>T x::rdL G6 v) (bC (SqL.of hd6)) (by rw[aR];omega) (fun v G7 hv s7 N hN=>?_) fun D7 cs G7 hD7 s7 hd7 hR7=>?_
     ·obtain⟨b,us,rfl,hul,hb6⟩:=hat v hv
      refine⟨_,rfl,(by show 1<=sizeLine;omega),fun e he=>?_⟩;have se:=aH (o:=.lst [T x]) he;refine⟨_,rfl,e,b,_,_,rfl,rfl,SqL.of aD,SqL.of (se b _ (s7 b _ hb6)),(by rw[aR];show 1+_<=sizeLine;omega),fun p hp=>?_⟩;have sp:=aH (o:=.lst ([T x]++us.map T)) hp;exact hN p _ (se.trans sp) (gC se hp) (by rw[aD,zG hb6];rfl)
     have sG7:=s5.trans (s6.trans s7);have hD7D:D7≠D:=fun z=>by rw[z,(s5.trans s6) D _ hGD] at hD7;cases hD7
     have hRx:Dt.R2 (fun us c=>c≠D∧H c=none∧G7 c=some (.lst (us.map T))) ((Dt.cH n (Dt.rm so x) (Wd.fin x) goal).map fun us=>x::us) cs:=by
      refine Mq _ (Mh (Nw V.ref hR6) hR7) ?_;rintro us c ⟨v,⟨b,rfl,hb1,hb2,hb3⟩,hc1,hc2,hc3⟩;refine⟨fun z=>?_,?_,?_⟩
      ·rw[z,(s5.trans s6) D _ hGD] at hc2;cases hc2
      ·cases e:H c with
       | none=>rfl
       | some o=>rw[(s5.trans s6) c o (kG c o (aO e hD) (sHS c o e))] at hc2;cases hc2
      ·rw[hc3,zG hb3];rfl
     have hnew:((so.take (i+1)).filter fun w=>decide (Wd.beg w=here)).flatMap (fun w=>(Dt.cH n (Dt.rm so w) (Wd.fin w) goal).map fun us=>w::us)=((so.take i).filter fun w=>decide (Wd.beg w=here)).flatMap (fun w=>(Dt.cH n (Dt.rm so w) (Wd.fin w) goal).map fun us=>w::us)++(Dt.cH n (Dt.rm so x) (Wd.fin x) goal).map fun us=>x::us:=by
      rw[htk,gl,dt (p:=fun w=>decide (Wd.beg w=here)) (decide_eq_true hb),jp,i9,List.flatMap_singleton]
     have hsum:bs.length+cs.length<=3628800:=by
      have e1:=hR.len;have e2:=hRx.len;have e3:=congrArg gi hnew;rw[ak,e1,e2] at e3;rw[<- e3];refine av ?_ cap;show _<=((so.filter fun w=>decide (Wd.beg w=here)).flatMap fun w=>(Dt.cH n (Dt.rm so w) (Wd.fin w) goal).map fun us=>w::us).length;rw[show so.filter (fun w=>decide (Wd.beg w=here))=(so.take (i+1)).filter (fun w=>decide (Wd.beg w=here))++(so.drop (i+1)).filter fun w=>decide (Wd.beg w=here) by rw[<- gl,ie],i9,ak];exact g9 _ _
     refine⟨D,D7,_,_,rfl,rfl,sG7 D _ hGD,hd7,(by rw[aR,aR];omega),?_⟩;refine⟨fun b o hb' e=>by rw[aM hb'];exact sG7 b o (kG b o hb' e),bs++cs,_,_,by rw[aD,bc],?_,rfl⟩;rw[hnew];refine Rx (hR.mono fun us b _ ⟨h1,h2,h3⟩=>⟨h1,h2,by rw[aM h1];exact sG7 b _ h3⟩) (hRx.mono fun us b _ ⟨h1,h2,h3⟩=>⟨h1,h2,by rw[aM h1];exact h3⟩)
    ·refine itN (fun z=>hb (of_decide_eq_true z)) ?_
     refine⟨kG,bs,_,_,hGD,?_,rfl⟩;rw[htk,gl,dj (p:=fun w=>decide (Wd.beg w=here)) (fun z=>hb (of_decide_eq_true z)),jp,df];exact hR
   ·rintro σ G ⟨kG,bs,v4,v5,hGD,hR,rfl⟩
    rw[aR,cf] at hR;refine⟨_,rfl,q so D bs G hp hw hD (fun b o e=>kG b o (aO e hD) (sHS b o e)) hGD ?_⟩;rw[hn];exact hR
theorem Im {f:Addr}{fd:FuncData}(F:Fun K "_law_orders" "_law_orders" dW f fd)(tt:Txt K mg ad)(hm:mg "_law_orders" = some (.ref f))(kp:ff K (.ref f)=true)(hb:kR K fd ["words", "here", "goal"] []):∀ d,bW P w K mg base (CX1 P w) (d+1) f fd ["words", "here", "goal"] (By K d)
 | 0=>⟨fun vs H Q E ⟨a,ms,here,goal,h,_⟩=>by rw[h];rfl,fun A outer s H args us vs Q E _ _ _ _ ⟨_,_,_,_,_,_,_,h,_⟩=>absurd h.1 (l8 _)⟩
 | d+1=>tK d F tt ⟨⟨f,fd,Im F tt hm kp hb d,hm,kp,hb⟩⟩
theorem So {ms:List (List Nat)}{p:List Nat}:(∀ e∈ms,Rc ms p (beg e))↔Wd.zP ms p:=by
 constructor
 ·intro h χ hp hc e he
  have key:∀ {z},Rc ms p z->χ z:=fun {z} hz=>by
   induction hz with
   | self=>exact hp
   | fw hw _ ih=>exact (hc _ hw).mp ih
   | bw hw _ ih=>exact (hc _ hw).mpr ih
  exact key (h e he)
 ·intro h e he
  exact h (fun z=>Rc ms p z) .self (fun e he=>⟨fun z=>.fw he z,fun z=>.bw he z⟩) e he
theorem Ri {ms:List (List Nat)}{v:List Nat}:exc ms [v]=((Wd.cnt Wd.beg ms v:Nat):Int)-((Wd.cnt Wd.fin ms v:Nat):Int):=by
 unfold exc Wd.cnt;simp only [a7];rfl
theorem Mm {ms:List (List Nat)}{v:List Nat}{g:List Nat->List Nat}(h:∀ l∈ms,g l≠v):Wd.cnt g ms v=0:=by
 unfold Wd.cnt;rw[bh,ge];exact fun l hl z=>h l hl (of_decide_eq_true z)
theorem Kh {ms ev:List (List Nat)}(hc:Pcs ms ev)(hw:Li ms ev none):∃ z0,IsP ms z0∧Wd.zP ms z0:=by
 obtain⟨z0,so,h0,_,hsn,hsm,e⟩:=hw;have hz0:=(hc.2.2 z0).mp (au h0);have hl:so.length=ev.length:=a5 fun z=>by rw[if_neg z] at e;cases e
 refine⟨z0,hz0,So.mp fun l hl'=>(hsm _).mp ?_⟩;exact Wd.full hsn (fun x hx=>(hc.2.2 x).mpr (Mp hz0 ((hsm x).mp hx))) (by omega) ((hc.2.2 _).mpr ⟨l,hl',.inl rfl⟩)
theorem kJ {ms so:List (List Nat)}{z:List Nat}(h:z∉so):exc ms (z::so)=exc ms [z]+exc ms so:=by
 have key:∀ (g:List Nat->List Nat),(ms.filter fun l=>decide (g l∈z::so)).length=(ms.filter fun l=>decide (g l∈[z])).length+(ms.filter fun l=>decide (g l∈so)).length:=fun g=>by
  induction ms with
  | nil=>rfl
  | cons l r ih =>
   rw[cz,cz,cz];by_cases h1:g l=z
   ·have h2:g l∉so:=h1▸h
    rw[if_pos (by simp[h1]),if_pos (by simp[h1]),if_neg (by simp[h2]),aq,aq,ih];omega
   ·by_cases h2:g l∈so
    ·rw[if_pos (by simp[h2]),if_neg (by simp[h1]),if_pos (by simp[h2]),aq,aq,ih]
     omega
    ·rw[if_neg (by simp[h1,h2]),if_neg (by simp[h1]),if_neg (by simp[h2]),ih]
 have k1:=key beg;have k2:=key fun l=>l.drop 1
 unfold exc;omega
theorem nK {ms:List (List Nat)}:exc ms []=0:=by
 unfold exc;simp
theorem vY {ms:List (List Nat)}(p:List Nat->Bool):∀ {ev:List (List Nat)},ev.Nodup->exc ms ev=exc ms (ev.filter p)+exc ms (ev.filter fun z=>!p z)
 | [],_=>by rw[jp,jp,nK];rfl
 | z::r,h=>by
  obtain⟨h1,h2⟩:=bv.mp h;have ih:=vY (ms:=ms) p h2;rw[kJ h1,cz,cz];cases hp:p z
  ·rw[if_neg am,if_pos (by rfl),kJ fun y=>h1 (cc.mp y).1]
   omega
  ·rw[if_pos rfl,if_neg (by decide),kJ fun y=>h1 (cc.mp y).1]
   omega
theorem Gj {ms:List (List Nat)}:∀ {so:List (List Nat)},so.Nodup->(∀ z∈so,1<=exc ms [z])->((so.length:Nat):Int)<=exc ms so
 | [],_,_=>by rw[nK];decide
 | z::r,h,hp=>by
  obtain⟨h1,h2⟩:=bv.mp h;have ih:=Gj h2 fun y hy=>hp y (aj _ hy)
  have:=hp z (al ..)
  rw[kJ h1,aq];omega
theorem Hf {ms:List (List Nat)}:∀ {so:List (List Nat)},so.Nodup->(∀ z∈so,exc ms [z]<=0)->exc ms so<=0∧(exc ms so=0->∀ z∈so,exc ms [z]=0)∧(exc ms so = -1->∃ q∈so,exc ms [q] = -1∧∀ y∈so,y≠q->exc ms [y]=0)
 | [],_,_=>by
  refine⟨by rw[nK];decide,fun _ z hz=>(by cases hz),fun e=>?_⟩;rw[nK] at e;cases e
 | z::r,h,hp=>by
  obtain⟨h1,h2⟩:=bv.mp h;obtain⟨i1,i2,i3⟩:=Hf h2 fun y hy=>hp y (aj _ hy)
  have hz:=hp z (al ..);rw[kJ h1];refine⟨by omega,fun e y hy=>?_,fun e=>?_⟩
  ·rcases ar.mp hy with rfl | hy
   ·omega
   ·exact i2 (by omega) y hy
  ·by_cases hz0:exc ms [z]=0
   ·obtain⟨q,hq,g1,g2⟩:=i3 (by omega)
    refine⟨q,aj _ hq,g1,fun y hy hyq=>?_⟩;rcases ar.mp hy with rfl | hy
    ·exact hz0
    ·exact g2 y hy hyq
   ·refine⟨z,al ..,by omega,fun y hy hyq=>?_⟩
    rcases ar.mp hy with rfl | hy
    ·exact absurd rfl hyq
    ·exact i2 (by omega) y hy
theorem Rv {ms ev:List (List Nat)}(h:Pcs ms ev):exc ms ev=0:=by
 have k1:(ms.filter fun l=>decide (beg l∈ev))=ms:=gh.mpr fun l hl=>decide_eq_true ((h.2.2 _).mpr ⟨l,hl,.inl rfl⟩)
 have k2:(ms.filter fun l=>decide (l.drop 1∈ev))=ms:=gh.mpr fun l hl=>decide_eq_true ((h.2.2 _).mpr ⟨l,hl,.inr rfl⟩)
 unfold exc;rw[k1,k2];omega
theorem Qc {ms:List (List Nat)}{z p:List Nat}(h:Wd.zP ms z)(hp:IsP ms p):Wd.zP ms p:=fun χ hs hc=>by
 refine h χ (a5 fun hz=>?_) hc;have hn:=h (fun v=>¬ χ v) hz fun e he=>not_congr (hc e he)
 obtain⟨l,hl,rfl | rfl⟩:=hp
 ·exact hn l hl hs
 ·exact hn l hl ((hc l hl).mpr hs)
theorem Sg {ms ev:List (List Nat)}(hc:Pcs ms ev)(hw:Xg ms ev none):∃ us p q,jA us ms p q:=by
 rcases hw with ⟨_,e⟩ | ⟨hlt,hA⟩
 ·cases e
 obtain⟨z0,hz0,hcon⟩:=Kh hc hA;have hall:=Rv hc;have hsp:=vY (ms:=ms) (fun z=>decide (0<exc ms [z])) hc.2.1;rw[hall] at hsp;have hnn:(ev.filter fun z=>!decide (0<exc ms [z])).Nodup:=hc.2.1.filter _;have hpp:(abv ms ev).Nodup:=hc.2.1.filter _;have hln:=Gj (ms:=ms) hpp fun z hz=>by have:=of_decide_eq_true (cc.mp hz).2;omega
 obtain⟨n1,n2,n3⟩:=Hf (ms:=ms) hnn fun z hz=>by
  have:=(cc.mp hz).2
  rw[ju,decide_eq_false_iff_not] at this;omega
 have hno:∀ v,¬ IsP ms v->Wd.cnt Wd.beg ms v=Wd.cnt Wd.fin ms v:=fun v hv=>by rw[Mm (g:=Wd.beg) fun l hl z=>hv ⟨l,hl,.inl z.symm⟩,Mm (g:=Wd.fin) fun l hl z=>hv ⟨l,hl,.inr z.symm⟩]
 have habv:exc ms (ev.filter fun z=>decide (0<exc ms [z]))=exc ms (abv ms ev):=rfl;have fin':∀ p q,IsP ms p->(∀ v,IsP ms v->exc ms [v]=(if v=p then 1 else 0)-(if v=q then 1 else 0))->(¬ IsP ms q->False)->∃ us p q,jA us ms p q:=fun p q hp he hq=>by
  have hb:Wd.Bal ms p q:=fun v=>by
   by_cases hv:IsP ms v
   ·have h0:=he v hv
    rw[Ri] at h0;by_cases h1:v=p
    ·rw[if_pos h1] at h0 ⊢
     by_cases h2:v=q
     ·rw[if_pos h2] at h0 ⊢
      omega
     ·rw[if_neg h2] at h0 ⊢
      omega
    ·rw[if_neg h1] at h0 ⊢
     by_cases h2:v=q
     ·rw[if_pos h2] at h0 ⊢
      omega
     ·rw[if_neg h2] at h0 ⊢
      omega
   ·have:=hno v hv
    rw[this,if_neg (fun z:v=q=>hq (z▸hv)),if_neg (fun z:v=p=>hv (z▸hp))]
  obtain⟨us,h1,h2⟩:=Wd.Zc hb (Qc hcon hp);exact⟨us,p,q,h2,h1⟩
 match hab:abv ms ev,hln with
 | [],_ =>
  rw[habv,hab,nK] at hsp;have hz:=n2 (by omega);refine fin' z0 z0 hz0 (fun v hv=>?_) (fun z=>z hz0)
  have:exc ms [v]=0:=by
   refine hz v (cc.mpr ⟨(hc.2.2 v).mpr hv,?_⟩);rw[ju,decide_eq_false_iff_not];intro y
   have:v∈abv ms ev:=cc.mpr ⟨(hc.2.2 v).mpr hv,decide_eq_true y⟩
   rw[hab] at this;cases this
  omega
 | [p],h1 =>
  rw[hab] at hlt;rw[habv,hab] at hsp;have h1':(1:Int)<=exc ms [p]:=h1;obtain⟨q,hq,g1,g2⟩:=n3 (by omega);have hpm:p∈abv ms ev:=by rw[hab];simp
  have hpe:=cc.mp hpm;have hqe:=cc.mp hq;have hpq:p≠q:=fun z=>by rw[z] at h1';omega
  refine fin' p q ((hc.2.2 p).mp hpe.1) (fun v hv=>?_) (fun z=>z ((hc.2.2 q).mp hqe.1));by_cases hvp:v=p
  ·subst hvp
   rw[if_pos rfl,if_neg hpq];omega
  ·rw[if_neg hvp]
   by_cases hvq:v=q
   ·subst hvq
    rw[if_pos rfl];omega
   ·rw[if_neg hvq]
    refine g2 v (cc.mpr ⟨(hc.2.2 v).mpr hv,?_⟩) hvq;rw[ju,decide_eq_false_iff_not];intro y
    have:v∈abv ms ev:=cc.mpr ⟨(hc.2.2 v).mpr hv,decide_eq_true y⟩
    rw[hab] at this;exact hvp (a7.mp this)
 | p::p2::r,h1 =>
  rw[hab] at hlt;rw[aq,aq] at h1;omega
def nKs (ls:List (List Nat))(f:List Nat->Nat):List (Key×V):=ls.map fun t=>(b9 (tx t),V.int (f t:Nat))
theorem yK {ls:List (List Nat)}{f:List Nat->Nat}:(nKs ls f).length=ls.length:=by unfold nKs;rw[aR]
theorem Ps {ls:List (List Nat)}{f:List Nat->Nat}:(nKs ls f).map (·.1)=ls.map fun t=>b9 (tx t):=by unfold nKs;rw[bj];rfl
theorem oX {ls:List (List Nat)}{f g:List Nat->Nat}(h:∀ t∈ls,f t=g t):nKs ls f=nKs ls g:=ay fun t ht=>by rw[h t ht]
theorem nT {t:List Nat}{f:List Nat->Nat}:∀ {ls:List (List Nat)},eC (nKs ls f) (b9 (tx t))=if t∈ls then some (V.int (f t:Nat)) else none
 | []=>by simp[nKs,eC]
 | l::ls=>by
  have ih:=@nT t f ls;by_cases h:l=t
  ·subst h
   rw[if_pos (al ..)];exact fX rfl
  ·show eC ((b9 (tx l),V.int (f l:Nat))::nKs ls f) _=_
   rw[fF (fun z=>h (eX (il z))),ih];by_cases h2:t∈ls
   ·rw[if_pos h2,if_pos (aj _ h2)]
   ·rw[if_neg h2,if_neg (fun z=>(ar.mp z).elim (fun e=>h e.symm) h2)]
theorem Th {ls:List (List Nat)}{f:List Nat->Nat}{t:List Nat}(h:t∉ls):eV (nKs ls f) (b9 (tx t)) (V.int (f t:Nat))=nKs (ls++[t]) f:=by
 rw[Qe _ (by rw[nT,if_neg h])];unfold nKs;rw[bc];rfl
theorem Sh {ls:List (List Nat)}{f:List Nat->Nat}{t:List Nat}{v:Nat}(h:t∈ls):eV (nKs ls f) (b9 (tx t)) (V.int (v:Nat))=nKs ls fun x=>if x=t then v else f x:=by
 have ha:((nKs ls f).any fun kv=>decide (kv.1=b9 (tx t)))=true:=oj.mpr ⟨_,ao.mpr ⟨t,h,rfl⟩,decide_eq_true rfl⟩;unfold eV;rw[if_pos ha];unfold nKs;rw[bj];refine ay fun x hx=>?_
 show (if (b9 (tx x):Key)=b9 (tx t) then ((b9 (tx x):Key),V.int (v:Nat)) else (b9 (tx x),V.int (f x:Nat)))=_;by_cases e:x=t
 ·rw[if_pos (by rw[e])];show _=(_,V.int ((if x=t then v else f x:Nat):Int));rw[if_pos e]
 ·rw[if_neg (fun z=>e (eX (il z)))];show _=(_,V.int ((if x=t then v else f x:Nat):Int));rw[if_neg e]
def Uf (ms:List (List Nat))(g:List Nat->Nat):Prop:=(∃ us p q,jA us ms p q∧∀ t,g t=Dt.rcF ms p q t)∨((∀ us p q,¬ jA us ms p q)∧∀ t,g t=0)
def rM (C:Addr):Sp:=fun vs H Q _=>∃ (x tp:Addr) (n:Nat) (ms:List (List Nat)) (g:List Nat->Nat) (m0:List Nat),vs=[.ref x]∧fL C H x tp n ms∧eK ms n∧ms[0]?=some m0∧Uf ms g∧∀ (D:Addr) (ps:List (List Nat)) (H':Hp),H D=none->aK H H'->H' D=some (.dK (nKs ps g))->ps.Pairwise (· < ·)->(∀ z,z∈ps↔IsP ms z)->Q (.ref D) H'
theorem vU {f:Addr}{fd:FuncData}(F:Fun K "row_counts" "row_counts" jT f fd)(tt:Txt K mg ad)(C_ring_count:Cal P w K mg base (CX1 P w) "ring_count" 6 ["web"] (rL ad.Web))(C_pieces:Cal P w K mg base (CX1 P w) "pieces" 2 ["web"] (hZ ad.Web))(C_outs:Cal P w K mg base (CX1 P w) "outs" 2 ["web", "piece"] (Qi ad.Web))
  (C_why_no_row:Cal P w K mg base (CX1 P w) "why_no_row" 5 ["web"] (Fo ad.Web)) (C_row_ends:Cal P w K mg base (CX1 P w) "row_ends" 6 ["web"] (Ej ad.Web)) (C_ways_on:Cal P w K mg base (CX1 P w) "ways_on" 5 ["words", "one", "other"] (nU K)) :
  bW P w K mg base (CX1 P w) 7 f fd ["web"] (rM ad.Web):=by
 refine F.okN eL (fun vs H Q E h=>?_) (fun cdv A outer s H vs Q E hr h=>?_)
 ·obtain⟨x,tp,n,ms,g,m0,rfl,_⟩:=h
  rfl
 ·obtain⟨x,tp,n,ms,g,m0,rfl,hW,hok,hm0,hG,q⟩:=h
  have hs:sizeLine=16777216:=sizeLine_eq;obtain⟨hne,h60,hn,hxs,hnd⟩:=id hok;have hm0m:=au hm0;refine⟨_,(aB (aI (i:=1) eL.nd rfl (Or.inl rfl) (aJ C_ring_count hr aS (aA (pv 0) aC)))
   (aB (aI (i:=2) eL.nd rfl (Or.inl rfl) Ag)
   (aB (cM PassesOwn.never rfl (bH (aJ C_pieces hr aS (aA (pv 0) aC))) (bK (i:=3) eL.nd rfl (Or.inl rfl)) (aE (rG (fW hr) (pv 2) (pv 3) (aQ mM (pv 1) (aL aN (by rfl) tt.b_len a0 (aA (aJ C_outs hr aS (aA (pv 0) (aA (pv 3) aC))) aC))) rfl)))
   (aB (bS (PW.pt (tT (aP dL (pv 1) aG (aW _)) (nO (kU (yO (aJ C_why_no_row hr aS (aA (pv 0) aC))))))) (aB (aI (i:=4) eL.nd rfl (Or.inl rfl) (aJ C_row_ends hr aS (aA (pv 0) aC)))
   (aE (rG (fW hr) (pv 2) (cL mU (pv 4) aG (fun _ _=>rfl)) (aJ C_ways_on hr aS (aA (fN (pv 0) rfl) (aA (cL mU (pv 4) aG (fun _ _=>rfl)) (aA (cL mU (pv 4) aG (fun _ _=>rfl)) aC)))) rfl))) aY)
   (aE (aV (pv 2))))))),?_⟩
  (try rw[cP]);(try rw[cxK1])
  refine⟨_,rfl,x,tp,n,ms,m0,rfl,hW,hok,hm0,fun H1 s1=>?_⟩;generalize hR:Dt.eN (Dt.rm ms m0) (Wd.fin m0) (Wd.beg m0)=R;refine fun D hD=>?_
  have sD:=aH (o:=.dK []) hD;refine⟨_,rfl,x,tp,n,ms,rfl,hW.on (s1.trans sD),hok,fun L ps H3 hL s3 hl3 hpw hpn hpm3=>?_⟩;have hel:=jJ hpn fun z hz=>(hpm3 z).mp hz
  refine⟨L,rfl,⟨_,SqL.of hl3⟩,?_⟩;have hDH:H D=none:=gC s1 hD;have hLD:L≠D:=fun z=>by rw[z,aD] at hL;cases hL
  refine dA (K:=K) (a:=L) (xs:=ps.map T) (fun i σ G=>aK H G∧G L=some (.lst (ps.map T))∧G D=some (.dK (nKs (ps.take i) fun t=>R*(Ad ms t).length))∧∃ v3:Option V,σ=[some (.ref x),some (.int (R:Nat)),some (.ref D),v3,none]) ⟨s1.trans (sD.trans s3),hl3,s3 D _ aD,none,rfl⟩ (fun i σ G _ h=>SqL.of h.2.1) ?_ ?_
  ·rintro i y σ G hi ⟨sG,hLG,hDG,v3,rfl⟩
   obtain⟨t,hti,rfl⟩:∃ t,ps[i]?=some t∧T t=y:=by rw[ah] at hi;exact ba.mp hi
   have htk:ps.take (i+1)=ps.take i++[t]:=by rw[ca,hti];rfl
   have hout:(Ad ms t).length<=60:=av (cq ..) h60;have htn:t∉ps.take i:=fun z=>by
    have h1:(ps.take (i+1)).Nodup:=hpn.sublist (gc ..);rw[htk,d9] at h1;exact h1.2.2 t z t (a7.mpr rfl) rfl
   refine⟨_,rfl,_,rfl,_,rfl,x,tp,n,ms,t,rfl,hW.on sG,hok,fun Do Go hDo so hdo=>?_⟩;refine⟨Do,_,rfl,.inl (SqL.of hdo),_,_,rfl,rfl,.inr ⟨by rw[aR];omega,by rw[aR];omega⟩,?_⟩;have e1:V.int (((R:Nat):Int)*((((Ad ms t).map T).length:Nat):Int))=V.int ((R*(Ad ms t).length:Nat):Int):=by rw[aR,fk]
   refine⟨_,rfl,_,rfl,D,upd Go D (.dK (nKs (ps.take (i+1)) fun t=>R*(Ad ms t).length)),rfl,?put,?_⟩
   case put =>
    show rV Go D (kV (b9 (tx t))) (V.int (((R:Nat):Int)*((((Ad ms t).map T).length:Nat):Int))) _;rw[e1,htk,<- Th (f:=fun t=>R*(Ad ms t).length) htn];exact rV.k (so D _ hDG) (by rw[yK,a6];omega)
   refine⟨fun b o e=>by rw[aM (aO e hDH)];exact so b o (sG b o e),by rw[aM hLD];exact so L _ hLG,aD,some (T t),rfl⟩
  ·rintro σ G ⟨sG,hLG,hDG,v3,rfl⟩
   rw[aR,cf] at hDG;have hasc:=Dt.Ek hpn hpw;refine⟨_,rfl,_,rfl,_,rfl,_,rfl,?_⟩;rcases hG with ⟨us,p,q',hway,hg⟩ | ⟨hno,hg⟩
   case inr =>
    have hR0:R=0:=a5 fun z=>by
     rw[<- hR] at z;obtain⟨vs,hvs⟩:=d0 (l:=Dt.rds ms m0) (jk z);obtain⟨h1,h2⟩:=(Dt.nV hnd hm0m).mp hvs;exact hno _ _ _ ⟨h2,h1⟩
    subst hR0;refine itP (decide_eq_true rfl) ?_;refine⟨_,rfl,x,tp,n,ms,rfl,hW.on sG,hok,fun ev r v H5 hpc hwy hv s5=>?_⟩;have hvn:v≠.non:=fun z=>by
     cases r with
     | none=>obtain⟨us,p,q',h⟩:=Sg hpc hwy;exact hno us p q' h
     | some r=>obtain⟨p1,b1,e1,_⟩:=hv;rw[z] at e1;cases e1
    refine⟨_,rfl,?_⟩;refine itN (by rw[decide_eq_false hvn];exact am) ?_;refine⟨_,rfl,?_⟩;rw[oX (g:=g) fun t _=>by rw[hg,oo]] at hDG;exact q D ps H5 hDH (sG.trans s5) (s5 D _ hDG) hasc hpm3
   have htr:Tr p us q':=hway.1;have hpm:=hway.2.symm;have hgf:g=Dt.rcF ms p q':=funext hg;subst hgf;by_cases hpq:p=q'
   ·subst hpq
    have hRp:R≠0:=fun z=>by have:=Dt.Lc hnd hm0m hway.2 hway.1;rw[hR,z] at this;cases this
    refine itN (fun z=>hRp (by have:=of_decide_eq_true z;omega)) ?_;refine itN (fun z=>by cases z) ?_;refine⟨_,rfl,?_⟩;rw[oX (g:=Dt.rcF ms p p) fun t _=>by rw[Dt.Si hnd hm0m,hR,dh];rfl] at hDG;exact q D ps G hDH sG hDG hasc hpm3
   ·have hR0:=Dt.Fd hnd hm0m hway.2 hway.1 hpq
    rw[hR] at hR0;subst hR0;refine itP (decide_eq_true rfl) ?_;refine⟨_,rfl,x,tp,n,ms,rfl,hW.on sG,hok,fun ev r v H5 hpc hwy hv s5=>?_⟩;obtain rfl:=wK htr hpm hpc hwy;obtain rfl:v = .non:=hv;refine⟨_,rfl,?_⟩;refine itP rfl ?_;refine⟨_,rfl,x,tp,n,ms,us,p,q',rfl,hW.on (sG.trans s5),hok,hway,fun v6 H6 s6 _ h6=>?_⟩;obtain⟨d6,rfl,hd6⟩:=h6 hpq;have s56:=s5.trans s6;have sG6:=sG.trans s56;obtain⟨⟨dx,hx⟩,htp⟩:=hW.on sG6;refine⟨_,rfl,x,ad.Web,dx,_,_,rfl,hx,tt.cl_Web,tt.na_Web_words,fO _ _,_,rfl,d6,_,_,_,rfl,rfl,SqT.of hd6,bO (j:=0) rfl,_,rfl,d6,_,_,_,rfl,rfl,SqT.of hd6,bO (j:=1) rfl,tp,ms,p,q',rfl,.inr (SqT.of htp),⟨hnd,h60,fun y hy=>by have:=(hxs y hy).1;omega⟩,fun H7 s7=>?_⟩;have hp1:=(hpm3 p).mpr (rC hway hne).1;refine⟨_,rfl,_,rfl,d6,_,_,_,rfl,rfl,SqT.of (s7 d6 _ hd6),bO (j:=0) rfl,D,_,rfl,rV.k (k:=b9 (tx p)) (s7 D _ (s56 D _ hDG)) (by rw[yK];omega),?_⟩;rw[Sh hp1];refine⟨_,rfl,?_⟩;refine q D ps _ hDH (fun b o e=>by rw[aM (aO e hDH)];exact s7 b o (sG6 b o e)) ?_ hasc hpm3;rw[aD,oX (g:=Dt.rcF ms p q') fun t _=>?_];by_cases ht:t=p
    ·rw[if_pos ht,ht,Dt.Zz hpq]
    ·rw[if_neg ht,Dt.Mz hnd hway.2 hway.1 hpq ht,oo]
theorem Bh {ls:List (List Nat)}{f:List Nat->Nat}:(nKs ls f).map (·.2)=(ls.map fun t=>((f t:Nat):Int)).map V.int:=by
 unfold nKs;rw[bj,bj];rfl
theorem uL {f:List Nat->Nat}:∀ ls:List (List Nat),(ls.map fun t=>((f t:Nat):Int)).sum=((ls.map f).sum:Nat)
 | []=>rfl
 | l::ls=>by rw[ap,ap,bz,bz,uL ls,l7]
theorem Ae {ps qs ms:List (List Nat)}(h1:ps.Pairwise (· < ·))(h2:qs.Pairwise (· < ·))(m1:∀ z,z∈ps↔IsP ms z)(m2:∀ z,z∈qs↔IsP ms z):qs=ps:=by
 have nd:∀ {l:List (List Nat)},l.Pairwise (· < ·)->l.Nodup:=fun h=>h.imp fun z e=>absurd (e▸z) (du _)
 have ns:∀ {l:List (List Nat)},l.Pairwise (· < ·)->l.Pairwise fun a b=>¬ b<a:=fun h=>h.imp fun z e=>du _ (lw z e)
 exact Wd.dI ((dq (nd h2) (nd h1)).mpr fun z=>by rw[m1,m2]) (ns h2) (ns h1)
def Xw (g:List Nat->Nat)(ps:List (List Nat)):Nat:=(ps.map g).sum
def uO (C:Addr):Sp:=fun vs H Q _=>∃ (x tp:Addr) (n:Nat) (ms:List (List Nat)) (g:List Nat->Nat) (m0:List Nat),vs=[.ref x]∧fL C H x tp n ms∧eK ms n∧ms[0]?=some m0∧Uf ms g∧∀ (ps:List (List Nat)) (H':Hp),ps.Pairwise (· < ·)->(∀ z,z∈ps↔IsP ms z)->aK H H'->Q (.int (Xw g ps:Nat)) H'
theorem zN {f:Addr}{fd:FuncData}(F:Fun K "row_count" "row_count" lD f fd)(tt:Txt K mg ad)(C_row_counts:Cal P w K mg base (CX1 P w) "row_counts" 7 ["web"] (rM ad.Web)):bW P w K mg base (CX1 P w) 8 f fd ["web"] (uO ad.Web):=by
 refine F.okN xN (fun vs H Q E h=>?_) (fun cdv A outer s H vs Q E hr h=>?_)
 ·obtain⟨x,tp,n,ms,g,m0,rfl,_⟩:=h
  rfl
 ·obtain⟨x,tp,n,ms,g,m0,rfl,hW,hok,hm0,hG,q⟩:=h
  refine⟨_,(aE (aV (aL (xH rfl) (by rfl) tt.b_sum ll (aA (Bl (aJ C_row_counts hr aS (aA (pv 0) aC))) aC)))),?_⟩
  (try rw[cP]);(try rw[cxK1])
  refine⟨_,rfl,x,tp,n,ms,g,m0,rfl,hW,hok,hm0,hG,fun D qs H1 hD s1 hd hqs hqm=>?_⟩;refine⟨D,_,rfl,hd,fun v hv=>?_⟩;have sv:=aH (o:=Vw v D) hv;refine⟨v,D,_,_,rfl,aD,sv D _ hd,Bh,?_⟩;rw[uL];exact q qs _ hqs hqm (s1.trans sv)
def sW (C:Addr)(ad:Adr):Sp:=fun vs H Q E=>∃ (x tp:Addr) (n:Nat) (ms:List (List Nat)) (g:List Nat->Nat) (m0 t:List Nat),vs=[.ref x,T t]∧fL C H x tp n ms∧eK ms n∧ms[0]?=some m0∧Uf ms g∧(¬ IsP ms t->∀ H',aK H H'->E (.ref ad.NoSuch) none H')∧(IsP ms t->∀ H',aK H H'->Q (.int (g t:Nat)) H')
theorem zT {f:Addr}{fd:FuncData}(F:Fun K "rows_from" "rows_from" kP f fd)(tt:Txt K mg ad)(C_row_counts:Cal P w K mg base (CX1 P w) "row_counts" 7 ["web"] (rM ad.Web)):bW P w K mg base (CX1 P w) 8 f fd ["web", "piece"] (sW ad.Web ad):=by
 refine F.okX nS (fun vs H Q E h=>?_) (fun cdv A outer s H vs Q E hr h=>?_)
 ·obtain⟨x,tp,n,ms,g,m0,t,rfl,_⟩:=h
  rfl
 ·obtain⟨x,tp,n,ms,g,m0,t,rfl,hW,hok,hm0,hG,xn,q⟩:=h
  have hs:sizeLine=16777216:=sizeLine_eq;refine⟨_,(aB (aI (i:=2) nS.nd rfl (Or.inl rfl) (aJ C_row_counts hr aS (aA (pv 0) aC)))
   (aB (bS (kU (Jk (fW hr) (pv 1) (pv 2))) (aE (dS (E:=fun cls H'=>E cls none H') tt.x_NoSuch rfl (fun _ _ _ _ _ _ _ I hx q=>gF I hx q) (aA (bT [116,104,101,32,119,101,98,32,104,97,115,32,110,111,32,115,117,99,104,32,112,105,101,99,101] (by decide +kernel)) aC))) aY)
   (aE (aV (lF (fW hr) (pv 2) (pv 1) (fun _ _=>rfl)))))),?_⟩
  (try rw[cP]);(try rw[cxK1])
  refine⟨_,rfl,x,tp,n,ms,g,m0,rfl,hW,hok,hm0,hG,fun D qs H1 hD s1 hd hqs hqm=>?_⟩;refine⟨_,rfl,_,rfl,D,_,rfl,lS.k (k:=b9 (tx t)) hd,_,rfl,?_⟩;rw[nT];by_cases ht:t∈qs
  ·rw[if_pos ht]
   refine tI ?_;refine⟨_,rfl,_,rfl,D,_,rfl,.inl ⟨_,b9 (tx t),.inl hd,rfl,by rw[nT,if_pos ht]⟩,?_⟩;exact q ((hqm t).mp ht) H1 s1
  ·rw[if_neg ht]
   refine vD ?_;exact⟨(by show 1<=sizeLine;omega),xn (fun z=>ht ((hqm t).mpr z)) H1 s1⟩
def Os (C:Addr)(H:Hp)(x tp:Addr)(n:Nat)(ms us:List (List Nat))(p q m0:List Nat)(ps:List (List Nat)):Prop:=fL C H x tp n ms∧eK ms n∧ms[0]?=some m0∧jA us ms p q∧ps.Pairwise (· < ·)∧∀ z,z∈ps↔IsP ms z
theorem Os.on {C:Addr}{H H':Hp}{x tp:Addr}{n:Nat}{ms us ps:List (List Nat)}{p q m0:List Nat}(h:Os C H x tp n ms us p q m0 ps)(s:aK H H'):Os C H' x tp n ms us p q m0 ps:=⟨h.1.on s,h.2⟩
def Ml (ms:List (List Nat))(p q:List Nat)(ps:List (List Nat)):Nat:=(ps.map (Dt.rcF ms p q)).sum
def Cj (C:Addr):Sp:=fun vs H Q _=>∃ (x tp:Addr) (n:Nat) (ms us:List (List Nat)) (p q m0:List Nat) (ps:List (List Nat)) (t:List Nat),vs=[.ref x,T t]∧Os C H x tp n ms us p q m0 ps∧∀ H',aK H H'->Q (T (Dt.reF p q t)) H'
theorem Ez {f:Addr}{fd:FuncData}(F:Fun K "row_end" "row_end" oB f fd)(tt:Txt K mg ad)(C_row_ends:Cal P w K mg base (CX1 P w) "row_ends" 6 ["web"] (Ej ad.Web)):bW P w K mg base (CX1 P w) 7 f fd ["web", "piece"] (Cj ad.Web):=by
 refine F.okN tD (fun vs H Q E h=>?_) (fun cdv A outer s H vs Q E hr h=>?_)
 ·obtain⟨x,tp,n,ms,us,p,q',m0,ps,t,rfl,_⟩:=h
  rfl
 ·obtain⟨x,tp,n,ms,us,p,q',m0,ps,t,rfl,⟨hW,hok,hm0,hway,hps,hpm⟩,q⟩:=h
  refine⟨_,(aB (aI (i:=2) tD.nd rfl (Or.inl rfl) (aJ C_row_ends hr aS (aA (pv 0) aC)))
   (aB (bS (kU (yO (pv 2))) (aE (aV (pv 1))) aY)
   (aE (aV (cL mU (pv 2) aG (fun _ _=>rfl)))))),?_⟩
  (try rw[cP]);(try rw[cxK1])
  refine⟨_,rfl,x,tp,n,ms,us,p,q',rfl,hW,hok,hway,fun v H1 s1 h1 h2=>?_⟩;refine⟨_,rfl,?_⟩;by_cases hpq:p=q'
  ·obtain rfl:=h1 hpq
   refine⟨_,rfl,vD ?_⟩;refine⟨_,rfl,?_⟩;have z:=q H1 s1;rw[<- hpq,Dt.Hh] at z;exact z
  ·obtain⟨d,rfl,hd⟩:=h2 hpq
   refine⟨_,rfl,tI ?_⟩;refine⟨_,rfl,d,_,_,_,rfl,rfl,SqT.of hd,bO (j:=1) rfl,?_⟩;have z:=q H1 s1;rw[Dt.Qm hpq] at z;exact z
def Gh (C:Addr)(ad:Adr):Sp:=fun vs H Q E=>∃ (x tp:Addr) (n:Nat) (ms us:List (List Nat)) (p q m0:List Nat) (ps:List (List Nat)) (k:Int),vs=[.ref x,.int k]∧Os C H x tp n ms us p q m0 ps∧(¬ (0<=k∧k<((Ml ms p q ps:Nat):Int))->∀ H',aK H H'->E (.ref ad.NoSuch) none H') ∧
 (∀ (j:Nat) (r:List Nat×List (List Nat)),k=(j:Int)->(Dt.rws ms p q ps)[j]?=some r->∀ H',aK H H'->Q (T (Dt.rX r)) H')
theorem Le {f:Addr}{fd:FuncData}(F:Fun K "row_by" "row_by" uP f fd)(tt:Txt K mg ad)(C_row_counts:Cal P w K mg base (CX1 P w) "row_counts" 7 ["web"] (rM ad.Web))(C_way_by:Cal P w K mg base (CX1 P w) "way_by" 6 ["words", "one", "other", "number"] (xV K))(C_row_end:Cal P w K mg base (CX1 P w) "row_end" 7 ["web", "piece"] (Cj ad.Web)) :
  bW P w K mg base (CX1 P w) 8 f fd ["web", "number"] (Gh ad.Web ad):=by
 refine F.okX iY (fun vs H Q E h=>?_) (fun cdv A outer s H vs Q E hr h=>?_)
 ·obtain⟨x,tp,n,ms,us,p,q',m0,ps,k,rfl,_⟩:=h
  rfl
 ·obtain⟨x,tp,n,ms,us,p,q',m0,ps,k,rfl,hRw,xn,q⟩:=h
  obtain⟨hW,hok,hm0,hway,hps,hpm⟩:=id hRw;have hs:sizeLine=16777216:=sizeLine_eq;obtain⟨hne,h60,hn,hxs,hnd⟩:=id hok;refine⟨_,(aB (aI (i:=2) iY.nd rfl (Or.inl rfl) (aJ C_row_counts hr aS (aA (pv 0) aC)))
   (aB (bS (PW.pt (uS (aP kZ (pv 1) aG (aW _)) (mS (aP Py (pv 1) (aL (xH rfl) (by rfl) tt.b_sum ll (aA (Bl (pv 2)) aC)) (aW _))))) (aE (dS (E:=fun cls H'=>E cls none H') tt.x_NoSuch rfl (fun _ _ _ _ _ _ _ I hx q=>gF I hx q) (aA (bT [116,104,101,32,119,101,98,32,104,97,115,32,110,111,32,114,111,119,32,111,102,32,116,104,105,115,32,110,117,109,98,101,114] (by decide +kernel)) aC))) aY)
   (aB (aI (i:=3) iY.nd rfl (Or.inl rfl) (pv 1))
   (aB (cM PassesOwn.leaving rfl (Hy (pv 2)) (bK (i:=4) iY.nd rfl (Or.inl rfl)) (aB (bS (aP kZ (pv 3) (lF (fW hr) (pv 2) (pv 4) (fun _ _=>rfl)) (aW _)) (aE rZ) aY)
   (aE (aI (i:=3) iY.nd rfl (Or.inl rfl) (aQ eR (pv 3) (lF (fW hr) (pv 2) (pv 4) (fun _ _=>rfl)))))))
   (aE (aV (aJ C_way_by hr aS (aA (fN (pv 0) rfl) (aA (pv 4) (aA (aJ C_row_end hr aS (aA (pv 0) (aA (pv 4) aC))) (aA (pv 3) aC))))))))))),?_⟩
  (try rw[cP]);(try rw[cxK1])
  refine⟨_,rfl,x,tp,n,ms,Dt.rcF ms p q',m0,rfl,hW,hok,hm0,.inl ⟨us,p,q',hway,fun _=>rfl⟩,fun D qs H1 hD s1 hd hqs hqm=>?_⟩;obtain rfl:=Ae hps hqs hpm hqm;refine⟨_,rfl,_,_,rfl,rfl,_,rfl,?_⟩;by_cases hk0:k<0
  ·refine itP (decide_eq_true hk0) ?_
   refine itP rfl ?_;exact⟨(by show 1<=sizeLine;omega),xn (fun z=>by omega) H1 s1⟩
  ·refine itN (fun z=>hk0 (of_decide_eq_true z)) ?_
   refine⟨_,rfl,_,rfl,D,_,rfl,hd,fun v hv=>?_⟩;have sv:=aH (o:=Vw v D) hv;refine⟨v,D,_,_,rfl,aD,sv D _ hd,Bh,?_⟩;rw[uL];refine⟨_,_,rfl,rfl,_,rfl,?_⟩;have s2:=s1.trans sv;have hd2:=sv D _ hd;generalize upd H1 v (Vw v D)=H2 at s2 hd2;by_cases hk1:k≥((Ml ms p q' qs:Nat):Int)
   ·refine itP (decide_eq_true hk1) ?_
    exact⟨(by show 1<=sizeLine;omega),xn (fun z=>by omega) H2 s2⟩
   ·refine itN (fun z=>hk1 (of_decide_eq_true z)) ?_
    obtain⟨j,hj⟩:∃ j:Nat,k=(j:Int):=⟨k.toNat,by omega⟩;subst hj;have hjl:j<(Dt.rws ms p q' qs).length:=by
     rw[Dt.yG]
     have:j<Ml ms p q' qs:=by omega
     exact this
    obtain⟨r,hr'⟩:∃ r,(Dt.rws ms p q' qs)[j]?=some r:=⟨_,aa hjl⟩;refine⟨_,rfl,?_⟩;refine⟨_,rfl,D,_,rfl,hd2,fun o=>?_⟩;have hfr:upd H2 D (.frz o (.dK (nKs qs (Dt.rcF ms p q')))) D=some (.frz o (.dK (nKs qs (Dt.rcF ms p q')))):=aD;have sF:aK H (upd H2 D (.frz o (.dK (nKs qs (Dt.rcF ms p q'))))):=fun b o' e=>by rw[aM (aO e hD)];exact s2 b o' e
    generalize upd H2 D (.frz o (.dK (nKs qs (Dt.rcF ms p q'))))=HF at hfr sF;have hget:∀ {t:List Nat},t∈qs->lS HF D (T t) (some (V.int (Dt.rcF ms p q' t:Nat))):=fun {t} ht=>.inl ⟨_,b9 (tx t),.inr ⟨o,hfr⟩,rfl,by rw[nT,if_pos ht]⟩
    refine Az (fun i σ G=>G=HF∧∃ (a':Nat) (v4:Option V),(Dt.rws ms p q' (qs.drop i))[a']?=some r∧σ=[some (.ref x),some (.int (j:Nat)),some (.ref D),some (.int (a':Nat)),v4]) ⟨rfl,j,none,hr',rfl⟩ (fun i σ G _ h=>by rw[h.1];exact hfr) ?_ ?_
    ·rintro i kv σ G hi ⟨rfl,a',v4,ha',rfl⟩
     have hik:((nKs qs (Dt.rcF ms p q')).map (·.1))[i]?=some kv.1:=by rw[ah,hi];rfl
     rw[Ps,ah] at hik;obtain⟨t,hti,hkt⟩:=ba.mp hik;rw[show kV kv.1=T t by rw[<- hkt];rfl];have htm:=au hti;have hdrop:qs.drop i=t::qs.drop (i+1):=by
      obtain⟨i1,i2⟩:=aw.mp hti;rw[ij i1,i2]
     rw[hdrop,Dt.Tt] at ha';have htl:t.length<=1000:=by
      obtain⟨l,hl,e | e⟩:=(hqm t).mp htm
      ·have:=(hxs l hl).1;rw[e];show (l.take (l.length-1)).length<=_;rw[a6];omega
      ·have:=(hxs l hl).1;rw[e,a9];omega
     refine⟨_,rfl,_,rfl,_,rfl,D,_,rfl,hget htm,_,_,rfl,rfl,_,rfl,?_⟩;by_cases hlt:a'<Dt.rcF ms p q' t
     ·refine itP (decide_eq_true (by omega)) ?_
      rw[if_pos hlt] at ha';obtain⟨ws,hws,hr2⟩:=ba.mp ha';obtain⟨⟨dx,hx⟩,htp⟩:=hW.on sF;refine⟨_,rfl,x,ad.Web,dx,_,_,rfl,hx,tt.cl_Web,tt.na_Web_words,fO _ _,_,rfl,_,rfl,_,rfl,x,tp,n,ms,us,p,q',m0,qs,t,rfl,hRw.on sF,fun H5 s5=>?_⟩;refine⟨_,rfl,tp,ms,ws,t,Dt.reF p q' t,a',rfl,.inr (SqT.of (s5 tp _ htp)),⟨hnd,h60,htl,fun y hy=>by have:=(hxs y hy).1;omega⟩,hws,fun H6 s6=>?_⟩;have z:=q j r rfl hr' H6 (sF.trans (s5.trans s6));rw[<- hr2] at z;exact z
     ·refine itN (fun z=>hlt (by have:=of_decide_eq_true z;omega)) ?_
      rw[if_neg hlt] at ha';refine⟨_,rfl,_,rfl,_,rfl,D,_,rfl,hget htm,_,_,rfl,rfl,?_⟩;refine⟨rfl,a'-Dt.rcF ms p q' t,some (T t),ha',?_⟩;rw[Int.ofNat_sub (by omega)];rfl
    ·rintro σ G ⟨rfl,a',v4,ha',rfl⟩
     rw[yK,sj] at ha';cases ha'
theorem nB {k:Nat}(h:k<=10):Dt.fct k<=3628800:=by
 have h1:∀ n m,n<=m->Dt.fct n<=Dt.fct m:=fun n m h=>by
  induction h with
  | refl=>exact af _
  | @step m _ ih=>exact av ih (Dt.sC (m+1))
 exact av (h1 k 10 h) (by decide)
theorem Cz:∀ {k:Nat} {E:List (List Nat)} {a b:List Nat},E.Nodup->E.length=k->(Dt.cH k E a b).length<=Dt.fct k
 | 0,E,a,b,_,_=>by
  show (if a=b then [[]] else ([]:List (List (List Nat)))).length<=1;split <;> simp
 | k+1,E,a,b,hn,h=>by
  show ((Dt.og E a).flatMap fun w=>(Dt.cH k (Dt.rm E w) (Wd.fin w) b).map fun us=>w::us).length<=(k+1)*Dt.fct k;have hog:(Dt.og E a).length<=k+1:=av (cq ..) (by omega);have key:∀ l:List (List Nat),(∀ w∈l,w∈E)->(l.flatMap fun w=>(Dt.cH k (Dt.rm E w) (Wd.fin w) b).map fun us=>w::us).length<=l.length*Dt.fct k:=fun l=>by
   induction l with
   | nil=>intro _;simp
   | cons w l ih =>
    intro hl;rw[cm,ak,aR,aq,g8,fo,iq]
    have:=Dt.dQ hn (hl w (al ..))
    exact mw (ih fun x hx=>hl x (aj _ hx)) (Cz (Dt.dH hn) (by omega))
  exact av (key _ fun w hw=>(Dt.cD.mp hw).1) (fq _ hog)
theorem sB (ls:List (List Nat)):(ls.map T).map unT=ls:=by
 rw[bj];exact (ay fun l _=>cS l).trans (iw _)
theorem zF:∀ l:List (List Nat),(l.map fun l=>[Wd.hd l]).flatten=l.map Wd.hd
 | []=>rfl
 | y::l=>by rw[ap,kx,zF l];rfl
theorem wP {ms:List (List Nat)}{m0:List Nat}{n:Nat}(hmsn:ms.Nodup)(hmsl:∀ w∈ms,w.length=n)(hne:ms≠[])(hn1:1<=n)(hs:ms.Pairwise fun x y=>¬ y<x)(hm0:ms[0]?=some m0) :
  (∀ us∈Dt.cH (Dt.rm ms m0).length (Dt.rm ms m0) (Wd.fin m0) (Wd.beg m0),(m0::us).map Wd.hd=Dt.rT m0 us)∧((Dt.cH (Dt.rm ms m0).length (Dt.rm ms m0) (Wd.fin m0) (Wd.beg m0)).map (Dt.rT m0)).Pairwise fun a b=>¬ b<a:=by
 have hm0m:=au hm0;have hrn:=Dt.dH (w:=m0) hmsn;have hrs:(Dt.rm ms m0).Pairwise fun x y=>¬ y<x:=hs.filter _
 have hfull:∀ us:List (List Nat),us.Perm (Dt.rm ms m0)->∀ w∈m0::us,w.length=n:=fun us hp w hw=>by
  rcases ar.mp hw with z | z
  ·rw[z];exact hmsl m0 hm0m
  ·exact hmsl w (Dt.dY.mp (hp.mem_iff.mp z)).1
 have hmt:∀ us∈Dt.cH (Dt.rm ms m0).length (Dt.rm ms m0) (Wd.fin m0) (Wd.beg m0),(m0::us).map Wd.hd=Dt.rT m0 us:=fun us hus=>by
  obtain⟨hup,hut⟩:=(Dt.eG rfl hrn).mp hus;have hwin:Wd.dG ((m0::us).map Wd.hd) n=m0::us:=Wd.Tg hn1 (hfull us hup) ⟨rfl,hut⟩;have hwp:(m0::us).Perm ms:=(hup.cons m0).trans (Dt.iG hmsn hm0m).symm;obtain⟨us',h1,h2,_⟩:=Dt.Sv (t:=(m0::us).map Wd.hd) (ms:=ms) (m0:=m0) hn1 hmsl (by rw[hwin];exact hwp) hne (by
   have h1:(Wd.dG ((m0::us).map Wd.hd) n)[0]?=some (Wd.bX ((m0::us).map Wd.hd) n 0):=Wd.wB (by rw[aR];exact ou _);rw[hwin] at h1;exact (a8 h1).symm)
  rw[hwin] at h1;rw[<- (jq h1).2] at h2;exact h2
 refine⟨hmt,?_⟩;rw[de];have h1:=Dt.Ee (a:=Wd.fin m0) (b:=Wd.beg m0) rfl hrn hrs fun w hw=>by have:=hmsl w (Dt.dY.mp hw).1;omega
 refine fh (fun {us vs} hu hv h=>?_) h1;obtain⟨hup,hut⟩:=(Dt.eG rfl hrn).mp hu;obtain⟨hvp,hvt⟩:=(Dt.eG rfl hrn).mp hv
 have:=Dt.Yu hn1 (hfull us hup) (hfull vs hvp) ⟨rfl,hut⟩ ⟨rfl,hvt⟩ (by rw[hup.length_eq,hvp.length_eq]) h
 exact fun y=>du _ (lw this y)
def Bu (K:ae):Sp:=fun vs H Q _=>∃ (a:Addr) (ls ms:List (List Nat)) (m0:List Nat) (n:Nat),vs=[.ref a]∧SqL K H a (ls.map T)∧(ls≠[]∧ls.Nodup∧ls.length<=10∧(1<=n∧n<=8)∧∀ w∈ls,w.length=n)∧ms.Perm ls∧ms.Pairwise (fun a b=>¬ b<a)∧ms[0]?=some m0∧∀ (so:List (List Nat)) (D:Addr) (H':Hp),so.Perm ((Dt.cH (Dt.rm ms m0).length (Dt.rm ms m0) (Wd.fin m0) (Wd.beg m0)).map fun us=>(m0::us).map Wd.hd)->so.Pairwise (fun a b=>¬ b<a)->aK H H'->H' D=some (.lst (so.map T))->Q (.ref D) H'
theorem vO {f:Addr}{fd:FuncData}(F:Fun K "_law_rings" "_law_rings" fJ f fd)(tt:Txt K mg ad)(C__law_orders:Cal P w K mg base (CX1 P w) "_law_orders" 12 ["words", "here", "goal"] (By K 11)):bW P w K mg base (CX1 P w) 13 f fd ["words"] (Bu K):=by
 refine F.okN fT (fun vs H Q E h=>?_) (fun cdv A outer s H vs Q E hr h=>?_)
 ·obtain⟨a,ls,ms,m0,n,rfl,_⟩:=h
  rfl
 ·obtain⟨a,ls,ms,m0,n,rfl,hS,⟨hne,hnd,hl,hn,hlen⟩,hp,hso,hm0,q⟩:=h
  have hs:sizeLine=16777216:=sizeLine_eq;have hmsn:=hp.nodup_iff.mpr hnd;have hm0m:=au hm0;have hm0l:=hlen m0 (hp.mem_iff.mp hm0m);obtain⟨hms0,hdr⟩:=yR hmsn hm0;have hmin:∀ y∈ls,¬ y<m0:=fun y hy=>by
   have hy:=hp.mem_iff.mpr hy;have hso:=hso;rw[hms0] at hy hso;rcases ar.mp hy with z | z
   ·rw[z];exact du _
   ·exact (kj.mp hso).1 y z
  refine⟨_,(aB (aI (i:=1) fT.nd rfl (Or.inr rfl) (aL (Js rfl) (by rfl) tt.b_min lm (aA (pv 0) aC)))
   (aB (dF (i:=2) qQ rfl (bH (pv 0)) (fun cl C s' H' fp=>(aP jV (pv 0) (pv 2) (aW _))) (fun cl C s' H' fp=>(pv 0)) fT.nd rfl rfl)
   (aB (aI (i:=3) fT.nd rfl (Or.inl rfl) (aJ C__law_orders hr aS (aA (pv 2) (aA (bA lR (pv 1) (bJ aG) bN) (aA (bA lR (pv 1) bN (bJ (mF iO aG))) aC)))))
   (aE (aV (aL nR (by rfl) tt.b_sorted di (aA (cV qW rfl (bH (pv 3)) (fun cl C s' H' fp=>(Eb K rfl oz pi pj (Lw K rfl) (bT [] (by decide +kernel)) (aA (cV qM rfl (Pc K rfl (aQ (Cd K rfl) (cJ (aA (pv 2) aC)) (pv 0))) (fun cl C s' H' fp=>(cL Kf (pv 0) aG (fun _ _=>rfl)))) aC)))) aC))))))),?_⟩
  (try rw[cP]);(try rw[cxK1])
  refine⟨_,rfl,a,ls,rfl,hS,hne,fun m1 hm1 hmin1=>?_⟩;obtain rfl:m1=m0:=jg m1 m0 (hmin m1 hm1) (hmin1 m0 (hp.mem_iff.mp hm0m));refine⟨_,rfl,a,rfl,⟨_,hS⟩,?_⟩;refine gZ (fun v=>!decide (unT v=m1)) (fun v=>v) (bC hS) (by rw[aR];omega) (fun v G5 hv s5 N hN=>?_) (fun v G5 hv hp s5 N hN=>?_) fun D5 G5 hD5 s5 hd5=>?_
  ·obtain⟨l,hl,rfl⟩:=ao.mp hv
   have z:=hN G5 (aK.refl _);rw[cS] at z;exact⟨_,rfl,_,rfl,_,rfl,_,rfl,_,rfl,z⟩
  ·exact⟨_,rfl,hN G5 (aK.refl _)⟩
  rw[show (ls.map T).filter (fun v=>!decide (unT v=m1))=(ls.filter fun o=>!decide (o=m1)).map T from cO (p:=fun o=>!decide (o=m1)) ls,ml] at hd5;have hleft:(ls.filter fun o=>!decide (o=m1))=Dt.rm ls m1:=rfl;rw[hleft] at hd5;have hrl:=Dt.dQ hnd hm1;refine⟨_,rfl,_,rfl,_,rfl,_,rfl,(by omega),_,rfl,_,rfl,_,rfl,_,rfl,(by omega),D5,Dt.rm ls m1,_,_,rfl,SqL.of hd5,Dt.dH hnd,⟨by omega,by decide⟩,by omega,fun y hy=>by have:=hlen y (Dt.dY.mp hy).1;omega,fun so D6 bs G6 hsp hsw hD6 s6 hd6 hR6=>?_⟩;rw[show fP m1 none (some (-(1:Int)))=Wd.beg m1 from iZ (by omega),show fP m1 (some 1) none=Wd.fin m1 from jD (k:=1) (by omega)] at hR6;obtain rfl:so=Dt.rm ms m1:=Wd.dI (hsp.trans (hp.symm.filter _)) hsw (hso.filter _);rw[show (Dt.rm ls m1).length=(Dt.rm ms m1).length from (hp.symm.filter _).length_eq] at hR6;have hbs:bs.length<=5000000:=by
   have h1:=hR6.len;have h2:=Cz (a:=Wd.fin m1) (b:=Wd.beg m1) (Dt.dH (w:=m1) hmsn) rfl;have h3:=nB (k:=(Dt.rm ms m1).length) (by have:=hp.length_eq;have:=Dt.dQ hmsn hm0m;omega);omega
  refine⟨_,rfl,D6,rfl,⟨_,SqL.of hd6⟩,?_⟩;refine iJ (fun v=>T ((m1::(rdL G6 v).map unT).map Wd.hd)) (bC (SqL.of hd6)) (by rw[aR];omega) (fun v G7 hv s7 N hN=>?_) fun D8 G8 hD8 s8 hd8=>?_
  ·obtain⟨b,hb,rfl⟩:=ao.mp hv
   obtain⟨i,hi⟩:=fu hb;obtain⟨us,hus,_,_,hb6⟩:=hR6.get hi;obtain⟨hup,hut⟩:=Dt.oG (Dt.dH hmsn) hus;have z:=hN;rw[zG hb6,show (us.map T).map unT=us from sB us] at z;have hul:us.length<=10:=by have:=hup.length_eq;have:=hp.length_eq;have:=Dt.dQ hmsn hm0m;omega
   refine⟨rfl,_,rfl,(by show 1<=sizeLine;omega),fun p5 hp5=>?_⟩;have t5:=aH (o:=.lst ([m1].map T)) hp5;refine⟨_,rfl,p5,b,[m1].map T,us.map T,rfl,rfl,SqL.of aD,SqL.of (t5 b _ (s7 b _ hb6)),(by rw[aR,aR];show 1+_<=_;omega),fun p7 hp7=>?_⟩;have t7:=aH (o:=.lst ([m1].map T++us.map T)) hp7;have h7:SqL K (upd (upd G7 p5 (.lst ([m1].map T))) p7 (.lst ([m1].map T++us.map T))) p7 ((m1::us).map T):=SqL.of (by rw[aD,<- bc];rfl);have t57:=t5.trans t7;refine⟨p7,rfl,⟨_,h7⟩,?_⟩;have hfl:∀ w∈m1::us,w.length=n:=fun w hw=>by
    rcases ar.mp hw with z | z
    ·rw[z];exact hm0l
    ·exact hlen w (hp.mem_iff.mp (Dt.dY.mp (hup.mem_iff.mp z)).1)
   refine iJ (fun v=>T [Wd.hd (unT v)]) (bC h7) (by rw[aR,aq];omega) (fun v G9 hv s9 N9 hN9=>?_) fun D9 G9 hD9 s9 hd9=>?_
   ·obtain⟨l,hl,rfl⟩:=ao.mp hv
    have hll:=hfl l hl;have z9:=hN9 G9 (aK.refl _);rw[cS] at z9;refine⟨_,rfl,_,rfl,_,rfl,(by omega),Wd.hd l,bO (j:=0) ?_,z9⟩;unfold Wd.hd;rw[ai,aa (show 0<l.length by omega)];rfl
   rw[fU (f:=fun l=>T [Wd.hd l]),show (m1::us).map (fun l=>T [Wd.hd l])=((m1::us).map fun l=>[Wd.hd l]).map T by rw[bj];rfl] at hd9;refine⟨rfl,D9,_,rfl,SqL.of hd9,(by rw[zF,aR,aq];omega),?_⟩;rw[zF];exact z _ (t57.trans s9)
  have hmap:∀ {A:List (List (List Nat))} {B:List Addr},Dt.R2 (fun us b=>b≠D6∧G5 b=none∧G6 b=some (.lst (us.map T))) A B->(B.map V.ref).map (fun v=>T ((m1::(rdL G6 v).map unT).map Wd.hd))=(A.map fun us=>(m1::us).map Wd.hd).map T:=fun {A B} h=>by
   induction h with
   | nil=>rfl
   | cons r _ ih=>rw[ap,ap,ap,ap,ih,zG r.2.2,sB];rfl
  rw[hmap hR6] at hd8;obtain⟨hmt,hasc⟩:=wP (n:=n) hmsn (fun w hw=>hlen w (hp.mem_iff.mp hw)) (fun z=>by rw[z] at hm0;cases hm0) hn.1 hso hm0;refine⟨D8,_,rfl,SqL.of hd8,(by rw[ay hmt];exact hasc),fun so D9 hD9 hp9 hw9=>?_⟩;exact q so D9 _ hp9 hw9 (s5.trans (s6.trans (s8.trans (aH hD9)))) aD
theorem Qx {ms ps:List (List Nat)}{n:Nat}(hmsn:ms.Nodup)(hmsl:∀ w∈ms,w.length=n)(hne:ms≠[])(hn1:1<=n)(hs:ms.Pairwise fun x y=>¬ y<x)(hps:ps.Pairwise (· < ·))(hpm:∀ z,z∈ps↔IsP ms z):(ps.flatMap fun one=>ps.flatMap fun other=>Dt.kH ms one other).Pairwise fun a b=>¬ b<a:=by
 have hpn:ps.Nodup:=hps.imp fun z e=>absurd (e▸z) (du _)
 have hpl:∀ z∈ps,z.length=n-1:=fun z hz=>by
  obtain⟨l,hl,e | e⟩:=(hpm z).mp hz
  ·have:=hmsl l hl;rw[e];show (l.take (l.length-1)).length=_;rw[a6];omega
  ·have:=hmsl l hl;rw[e,a9];omega
 by_cases h:∃ us p q,jA us ms p q
 ·obtain⟨us,p,q,hway⟩:=h
  rw[Dt.Ah hmsn hway.2 hway.1 hpn ((hpm q).mpr (rC hway hne).2),de];exact (Dt.Fl (p:=p) (q:=q) hmsn hs (fun w hw=>by have:=hmsl w hw;omega) hps hpl).imp fun z y=>du _ (lw z y)
 ·rw[Dt.xF hmsn fun us p q h1 h2=>h ⟨us,p,q,h2,h1⟩]
  exact m9
theorem pD:∀ l:List (List Nat),(l.map fun l=>[Wd.bU l]).flatten=l.map Wd.bU
 | []=>rfl
 | y::l=>by rw[ap,kx,pD l];rfl
def Ia (K:ae):Sp:=fun vs H Q _=>∃ (a b:Addr) (ls ms ps:List (List Nat)) (n:Nat),vs=[.ref a,.ref b]∧SqL K H a (ls.map T)∧SqL K H b (ps.map T)∧(ls≠[]∧ls.Nodup∧ls.length<=10∧(1<=n∧n<=8)∧∀ w∈ls,w.length=n)∧ms.Perm ls∧ms.Pairwise (fun a b=>¬ b<a)∧(ps.Pairwise (· < ·)∧∀ z,z∈ps↔IsP ms z)∧∀ (so:List (List Nat)) (D:Addr) (H':Hp),so.Perm (ps.flatMap fun one=>ps.flatMap fun other=>Dt.kH ms one other)->so.Pairwise (fun a b=>¬ b<a)->aK H H'->H' D=some (.lst (so.map T))->Q (.ref D) H'
theorem xZ {f:Addr}{fd:FuncData}(F:Fun K "_law_rows" "_law_rows" iC f fd)(tt:Txt K mg ad)(C__law_orders:Cal P w K mg base (CX1 P w) "_law_orders" 12 ["words", "here", "goal"] (By K 11)):bW P w K mg base (CX1 P w) 13 f fd ["words", "every"] (Ia K):=by
 refine F.okN fH (fun vs H Q E h=>?_) (fun cdv A outer s H vs Q E hr h=>?_)
 ·obtain⟨a,b,ls,ms,ps,n,rfl,_⟩:=h
  rfl
 ·obtain⟨a,b,ls,ms,ps,n,rfl,hS,hB,⟨hne,hnd,hl,hn,hlen⟩,hp,hso,⟨hpa,hpm⟩,q⟩:=h
  have hs:sizeLine=16777216:=sizeLine_eq;have hmsn:=hp.nodup_iff.mpr hnd;have hps:ps.Nodup:=hpa.imp fun z e=>absurd (e▸z) (du _)
  refine⟨_,(aB (aI (i:=2) fH.nd rfl (Or.inl rfl) (cJ aC))
   (aB (cM PassesOwn.never rfl (bH (pv 1)) (bK (i:=3) fH.nd rfl (Or.inl rfl)) (aE (cM PassesOwn.never rfl (bH (pv 1)) (bK (i:=4) fH.nd rfl (Or.inl rfl)) (aE (cM PassesOwn.never rfl (bH (aJ C__law_orders hr aS (aA (pv 0) (aA (pv 3) (aA (pv 4) aC))))) (bK (i:=5) fH.nd rfl (Or.inl rfl)) (aE (fB (qC dv iz i0 gN (pv 2) (aA (aQ gB (bA lR (cL cG (pv 5) aG (fun _ _=>rfl)) bN (bJ (mF iO aG))) (qC oz pi pj Ft (bT [] (by decide +kernel)) (aA (cV tU rfl (bH (pv 5)) (fun cl C s' H' fp=>(cL Kf (pv 0) (mF iO aG) (fun _ _=>rfl)))) aC))) aC)))))))))
   (aE (aV (aL nR (by rfl) tt.b_sorted di (aA (pv 2) aC)))))),?_⟩
  (try rw[cP]);(try rw[cxK1])
  refine⟨(by show 0<=sizeLine;omega),fun D hD=>?_⟩;have sD:=aH (o:=.lst []) hD;have hmany:∀ one other,(Dt.kH ms one other).length<=3628800:=fun one other=>by
   unfold Dt.kH;rw[aR];exact av (Cz hmsn rfl) (nB (by have:=hp.length_eq;omega))
  refine⟨_,rfl,b,rfl,⟨_,sD.seq hB⟩,?_⟩;refine dA (K:=K) (a:=b) (xs:=ps.map T) (fun i σ G=>aK H G∧G D=some (.lst (((ps.take i).flatMap fun one=>ps.flatMap fun other=>Dt.kH ms one other).map T))∧∃ v3 v4 v5:Option V,σ=[some (.ref a),some (.ref b),some (.ref D),v3,v4,v5]) ⟨sD,aD,none,none,none,rfl⟩ (fun i σ G _ h=>h.1.seq hB) ?_ ?_
  ·rintro i y σ G hi ⟨sG,hdG,v3,v4,v5,rfl⟩
   obtain⟨one,hoi,rfl⟩:∃ one,ps[i]?=some one∧T one=y:=by rw[ah] at hi;exact ba.mp hi
   have htk:ps.take (i+1)=ps.take i++[one]:=by rw[ca,hoi];rfl
   generalize hpre:((ps.take i).flatMap fun one=>ps.flatMap fun other=>Dt.kH ms one other)=pre at hdG;refine⟨_,rfl,b,rfl,⟨_,sG.seq hB⟩,?_⟩;refine dA (K:=K) (a:=b) (xs:=ps.map T) (fun j σ G=>aK H G∧G D=some (.lst ((pre++(ps.take j).flatMap fun other=>Dt.kH ms one other).map T))∧∃ v4 v5:Option V,σ=[some (.ref a),some (.ref b),some (.ref D),some (T one),v4,v5]) ⟨sG,by rw[hdG,jc];simp,v4,v5,rfl⟩ (fun i σ G _ h=>h.1.seq hB) ?_ ?_
   ·rintro j y σ G hj ⟨sG,hdG,v4,v5,rfl⟩
    obtain⟨other,hoj,rfl⟩:∃ other,ps[j]?=some other∧T other=y:=by rw[ah] at hj;exact ba.mp hj
    have htj:ps.take (j+1)=ps.take j++[other]:=by rw[ca,hoj];rfl
    generalize hpr2:pre++((ps.take j).flatMap fun other=>Dt.kH ms one other)=pr2 at hdG;refine⟨_,rfl,_,rfl,_,rfl,a,ls,one,other,rfl,sG.seq hS,hnd,⟨by omega,by decide⟩,by omega,fun y hy=>by have:=hlen y hy;omega,fun so D6 bs G6 hsp hsw hD6 s6 hd6 hR6=>?_⟩;obtain rfl:ms=so:=(Wd.dI (hsp.trans hp.symm) hsw hso).symm;rw[<- hp.length_eq] at hR6;have hpl2:pr2.length<=7257600:=by
     have hf:=nB (k:=ms.length) (by have:=hp.length_eq;omega);have hmn:ms≠[]:=fun z=>hne (uy.mp (z▸hp))
     have h1:=Dt.uA (ps:=ps.take i) (qs:=ps) (hps.sublist (gc ..)) hps hmsn hmn;have h2:=Dt.uA (ps:=[one]) (qs:=ps.take j) (bv.mpr ⟨by simp,gu⟩) (hps.sublist (gc ..)) hmsn hmn;rw[cm,List.flatMap_nil,df] at h2;rw[hpre] at h1;rw[<- hpr2,ak];omega
    have hDD:D6≠D:=fun z=>by rw[z,hdG] at hD6;cases hD6
    refine⟨D6,rfl,⟨_,SqL.of hd6⟩,?_⟩;have hbl:=hR6.len;have hm1:=hmany one other;unfold Dt.kH at hm1;rw[aR] at hm1;refine dA (K:=K) (a:=D6) (xs:=bs.map V.ref) (fun k σ G2=>Kp D G6 G2∧G2 D=some (.lst ((pr2++((Dt.cH ms.length ms one other).take k).map fun us=>one++us.map Wd.bU).map T))∧∃ v5:Option V,σ=[some (.ref a),some (.ref b),some (.ref D),some (T one),some (T other),v5]) ⟨fun b o _ e=>e,by rw[s6 D _ hdG,jc];simp,v5,rfl⟩ (fun k σ G2 _ h=>SqL.of (h.1 D6 _ hDD hd6)) ?_ ?_
    ·rintro k y σ G2 hk ⟨k2,hd2,v5,rfl⟩
     obtain⟨c,hck,rfl⟩:∃ c,bs[k]?=some c∧V.ref c=y:=by rw[ah] at hk;exact ba.mp hk
     obtain⟨us,hus,_,hcn,hc6⟩:=hR6.get hck;obtain⟨hup,hut⟩:=Dt.oG hmsn hus;have hcD:c≠D:=fun z=>by rw[z,hdG] at hcn;cases hcn
     have hc2:=k2 c _ hcD hc6;have hul:=hup.length_eq;have hml:=hp.length_eq;have hxl:∀ l∈us,1<=l.length∧l.length<=1000:=fun l hl=>by have:=hlen l (hp.mem_iff.mp (hup.mem_iff.mp hl));omega
     have hupos:0<us.length:=by have:=cn.mpr hne;omega
     obtain⟨w0,hw0⟩:∃ w0,us[0]?=some w0:=⟨us[0]'hupos,aa _⟩;have hw0l:=hxl w0 (au hw0);have e0:one=beg w0:=by
      cases us with
      | nil=>simp at hupos
      | cons x xs =>
       have:x=w0:=by simpa using hw0
       rw[<- this];exact hut.1.symm
     refine⟨_,rfl,.inl ⟨rfl,_,SqL.of hd2⟩,_,rfl,c,_,_,_,rfl,rfl,SqL.of hc2,(bO (j:=0) (by rw[ah,hw0];rfl)),_,rfl,_,rfl,_,rfl,(by omega),?_⟩;rw[show fP w0 none (some (-(1:Int)))=beg w0 from iZ hw0l.1,<- e0];refine⟨rfl,_,rfl,c,rfl,⟨_,SqL.of hc2⟩,?_⟩;refine iJ (fun v=>T [Wd.bU (unT v)]) (bC (SqL.of hc2)) (by rw[aR];omega) (fun v G9 hv s9 N hN=>?_) fun D8 G8 hD8 s8 hd8=>?_
     ·obtain⟨l,hl,rfl⟩:=ao.mp hv
      have hll:=hxl l hl;have z:=hN G9 (aK.refl _);rw[cS] at z;exact⟨_,rfl,_,rfl,_,rfl,_,rfl,(by omega),Wd.bU l,Hz hll.1,z⟩
     rw[fU (f:=fun l=>T [Wd.bU l]),show us.map (fun l=>T [Wd.bU l])=(us.map fun l=>[Wd.bU l]).map T by rw[bj];rfl] at hd8;have h1l:one.length<=1000:=by rw[e0];show (w0.take _).length<=_;rw[a6];omega
     refine⟨rfl,D8,_,rfl,SqL.of hd8,(by rw[pD,aR];omega),?_⟩;rw[pD];refine⟨_,rfl,_,rfl,(by rw[aR];omega),?_⟩;have htk:(Dt.cH ms.length ms one other).take (k+1)=(Dt.cH ms.length ms one other).take k++[us]:=by rw[ca,hus];rfl
     have h4:((Dt.cH ms.length ms one other).take k).length<=(Dt.cH ms.length ms one other).length:=by rw[a6];omega
     refine⟨D,_,_,rfl,rfl,s8 D _ hd2,(by rw[aR,ak,aR];omega),?_⟩;refine⟨fun b' o' hb' e=>by rw[aM hb'];exact s8 b' o' (k2 b' o' hb' e),?_,some (.ref c),rfl⟩;rw[aD,htk];simp
    ·rintro σ G2 ⟨k2,hd2,v5,rfl⟩
     rw[aR,<- hbl,cf] at hd2;refine⟨fun b' o' e=>k2 b' o' (aO e hD) (s6 b' o' (sG b' o' e)),?_,some (T other),v5,rfl⟩;rw[hd2,htj,i9,<- c6,hpr2];simp[Dt.kH]
   ·rintro σ G2 ⟨sG2,hd2,v4,v5,rfl⟩
    rw[aR,cf] at hd2;refine⟨sG2,?_,some (T one),v4,v5,rfl⟩;rw[hd2,htk,i9,hpre];simp
  ·rintro σ G ⟨sG,hdG,v3,v4,v5,rfl⟩
   rw[aR,cf] at hdG;refine⟨_,rfl,D,_,rfl,SqL.of hdG,Qx (n:=n) hmsn (fun w hw=>hlen w (hp.mem_iff.mp hw)) (fun z=>hne (uy.mp (z▸hp))) hn.1 hso hpa hpm,fun so D9 hD9 hp9 hw9=>?_⟩;exact q so D9 _ hp9 hw9 (sG.trans (aH hD9)) aD
theorem Pd {ms ev so:List (List Nat)}{n:Nat}(hok:eK ms n)(hn1:1<=n)(hs:ms.Pairwise fun x y=>¬ y<x)(hev:ev.Pairwise (· < ·))(hevm:∀ z,z∈ev↔IsP ms z)(hp:so.Perm (ev.flatMap fun one=>ev.flatMap fun other=>Dt.kH ms one other))(hso:so.Pairwise fun a b=>¬ b<a) :
  ∃ g,Uf ms g∧Xw g ev=so.length∧(∀ t∈ev,g t=(so.filter fun r=>decide (r.take (n-1)=t)).length)∧(∀ r∈so,n-1<=r.length∧r.length<=ms.length+n-1)∧∀ (j:Nat) (r:List Nat),so[j]?=some r->∃ us p q r',jA us ms p q∧(Dt.rws ms p q ev)[j]?=some r'∧Dt.rX r'=r∧Ml ms p q ev=so.length:=by
 have hmsn:=hok.2.2.2.2;have hmsl:∀ w∈ms,w.length=n:=fun w hw=>(hok.2.2.2.1 w hw).1
 have hevn:ev.Nodup:=hev.imp fun z e=>absurd (e▸z) (du _)
 have hpl:∀ z∈ev,z.length=n-1:=fun z hz=>by
  obtain⟨l,hl,e | e⟩:=(hevm z).mp hz
  ·have:=hmsl l hl;rw[e];show (l.take (l.length-1)).length=_;rw[a6];omega
  ·have:=hmsl l hl;rw[e,a9];omega
 by_cases h:∃ us p q,jA us ms p q
 ·obtain⟨us,p,q,hway⟩:=h
  have e:so=(Dt.rws ms p q ev).map Dt.rX:=by
   refine Wd.dI (by rw[<- Dt.Ah hmsn hway.2 hway.1 hevn ((hevm q).mpr (rC hway hok.1).2)];exact hp) hso ?_;rw[de];exact (Dt.Fl (p:=p) (q:=q) hmsn hs (fun w hw=>by have:=hmsl w hw;omega) hev hpl).imp fun z y=>du _ (lw z y)
  subst e;refine⟨Dt.rcF ms p q,.inl ⟨us,p,q,hway,fun _=>rfl⟩,?_,fun t ht=>(Dt.Ov hevn ht hpl).symm,fun r hr=>?_,fun j r hr=>?_⟩
  ·rw[aR,Dt.yG]
   rfl
  ·obtain⟨v,hv,rfl⟩:=ao.mp hr
   obtain⟨h1,h2,_⟩:=Dt.Om hmsn hv
   have:=hpl _ h1
   have:=h2.length_eq
   unfold Dt.rX;rw[ak,aR];omega
  ·rw[ah] at hr
   obtain⟨r',h1,h2⟩:=ba.mp hr;exact⟨us,p,q,r',hway,h1,h2,by rw[aR,Dt.yG];rfl⟩
 ·have hno:∀ us p q,¬ jA us ms p q:=fun us p q z=>h ⟨us,p,q,z⟩
  rw[Dt.xF hmsn fun us p q h1 h2=>hno us p q ⟨h2,h1⟩] at hp;obtain rfl:=nk.mp hp;refine⟨fun _=>0,.inr ⟨hno,fun _=>rfl⟩,Dt.gW,fun _ _=>rfl,fun r hr=>(by cases hr),fun j r hr=>?_⟩;cases hr
theorem Jn {ms so:List (List Nat)}{m0:List Nat}{n:Nat}(hok:eK ms n)(hn1:1<=n)(hs:ms.Pairwise fun x y=>¬ y<x)(hm0:ms[0]?=some m0)(hp:so.Perm ((Dt.cH (Dt.rm ms m0).length (Dt.rm ms m0) (Wd.fin m0) (Wd.beg m0)).map fun us=>(m0::us).map Wd.hd))(hso:so.Pairwise fun a b=>¬ b<a) :
  so=(Dt.cH (Dt.rm ms m0).length (Dt.rm ms m0) (Wd.fin m0) (Wd.beg m0)).map (Dt.rT m0):=by
 have hmsn:=hok.2.2.2.2;have hmsl:∀ w∈ms,w.length=n:=fun w hw=>(hok.2.2.2.1 w hw).1
 obtain⟨hmt,hasc⟩:=wP hmsn hmsl hok.1 hn1 hs hm0;exact Wd.dI (hp.trans (List.Perm.of_eq (ay hmt))) hso hasc
def Gw (K:ae):Sp:=fun vs H Q _=>∃ (a:Addr) (ns:List Int),vs=[.ref a]∧SqL K H a (ns.map V.int)∧ns.length<=63∧∀ H',Q (.bl true) H'
theorem Wn {f:Addr}{fd:FuncData}(F:Fun K "law" "law" jZ f fd)(tt:Txt K mg ad)(C__law_some_words:Cal P w K mg base (CX1 P w) "_law_some_words" 3 ["script", "at", "most"] (Ht K))(C_Web_init:Cam P w K mg base (CX1 P w) "Web" ad.Web 5 ["self", "words"] (Er K ad.Web))(C__law_rings:Cal P w K mg base (CX1 P w) "_law_rings" 13 ["words"] (Bu K))(C__law_rows:Cal P w K mg base (CX1 P w) "_law_rows" 13 ["words", "every"] (Ia K))(C__law_whole:Cal P w K mg base (CX1 P w) "_law_whole" 1 ["found", "due"] Hd)(C_ring_count:Cal P w K mg base (CX1 P w) "ring_count" 6 ["web"] (rL ad.Web))(C_row_count:Cal P w K mg base (CX1 P w) "row_count" 8 ["web"] (uO ad.Web))
  (C_rows_from:Cal P w K mg base (CX1 P w) "rows_from" 8 ["web", "piece"] (sW ad.Web ad)) (C_ring_by:Cal P w K mg base (CX1 P w) "ring_by" 7 ["web", "number"] (Ap ad.Web ad)) (C_row_by:Cal P w K mg base (CX1 P w) "row_by" 8 ["web", "number"] (Gh ad.Web ad)) :
  bW P w K mg base (CX1 P w) 14 f fd ["script"] (Gw K):=by
 refine F.okN gX (fun vs H Q E h=>?_) (fun cdv A outer s H vs Q E hr h=>?_)
 ·obtain⟨a,ns,rfl,_⟩:=h
  rfl
 ·obtain⟨a,ns,rfl,hS,hlen,q⟩:=h
  have hs:sizeLine=16777216:=sizeLine_eq;have hu:=ld (fW hr);refine⟨_,(aB (aI (i:=1) gX.nd rfl (Or.inl rfl) (aJ C__law_some_words hr aS (aA (pv 0) (aA aG (aA aG aC)))))
   (aB (aI (i:=2) gX.nd rfl (Or.inl rfl) (Ww C_Web_init hr aS (aA (pv 1) aC)))
   (aB (aI (i:=3) gX.nd rfl (Or.inl rfl) (aL (lX rfl) (by rfl) tt.b_sorted di (aA (dU (oU rfl) (by rfl) tt.b_set (by decide +kernel) (aA (aQ iB (cV Nt rfl (bH (pv 1)) (fun cl C s' H' fp=>(bA lR (pv 0) bN (bJ (mF iO aG))))) (cV Pa rfl (bH (pv 1)) (fun cl C s' H' fp=>(bA lR (pv 0) (bJ aG) bN)))) aC)) aC)))
   (aB (aI (i:=4) gX.nd rfl (Or.inl rfl) (aJ C__law_rings hr aS (aA (pv 1) aC)))
   (aB (aI (i:=5) gX.nd rfl (Or.inl rfl) (aJ C__law_rows hr aS (aA (pv 1) (aA (pv 3) aC))))
   (aB (bS (PW.pt (uS (zD (yE (aJ C__law_whole hr aS (aA (aJ C_ring_count hr aS (aA (pv 2) aC)) (aA (aL aN (by rfl) tt.b_len a0 (aA (pv 4) aC)) aC))))) (mS (zD (yE (aJ C__law_whole hr aS (aA (aJ C_row_count hr aS (aA (pv 2) aC)) (aA (aL aN (by rfl) tt.b_len a0 (aA (pv 5) aC)) aC)))))))) (aE (aV pZ)) aY)
   (aB (aI (i:=6) gX.nd rfl (Or.inr rfl) (aQ eR (aL dP (by rfl) tt.b_len a0 (aA (cL cG (pv 1) aG (fun _ _=>rfl)) aC)) aG))
   (aB (cM PassesOwn.never rfl (bH (pv 3)) (bK (i:=7) gX.nd rfl (Or.inr rfl)) (aE (bS (zD (yE (aJ C__law_whole hr aS (aA (aJ C_rows_from hr aS (aA (pv 2) (aA (pv 7) aC))) (aA (aL aN (by rfl) tt.b_len a0 (aA (rY Qk rfl (bH (pv 5)) (fun cl C s' H' fp=>(aP mZ (bA lR (pv 0) bN (bJ (pv 7))) (pv 8) (aW _))) (fun cl C s' H' fp=>(pv 0))) aC)) aC))))) (aE (aV pZ)) aY)))
   (aB (cM PassesOwn.never rfl (gP (by rfl) tt.b_range (aA (aL (wG rfl) (by rfl) tt.b_min lm (aA (aL aN (by rfl) tt.b_len a0 (aA (pv 4) aC)) (aA aG aC))) aC)) (bK (i:=8) gX.nd rfl (Or.inl rfl)) (aE (bS (aP jV (aJ C_ring_by hr aS (aA (pv 2) (aA (pv 8) aC))) (cL cG (pv 4) (pv 8) (fun _ _=>rfl)) (aW _)) (aE (aV pZ)) aY)))
   (aB (cM PassesOwn.never rfl (gP (by rfl) tt.b_range (aA (aL (wG rfl) (by rfl) tt.b_min lm (aA (aL aN (by rfl) tt.b_len a0 (aA (pv 5) aC)) (aA aG aC))) aC)) (bK (i:=8) gX.nd rfl (Or.inl rfl)) (aB (aI (i:=9) gX.nd rfl (Or.inl rfl) (aQ eR (aQ eR (aL aN (by rfl) tt.b_len a0 (aA (pv 5) aC)) aG) (pv 8)))
   (aE (bS (PW.pt (uS (aP jV (aJ C_row_by hr aS (aA (pv 2) (aA (pv 8) aC))) (cL cG (pv 5) (pv 8) (fun _ _=>rfl)) (aW _)) (mS (aP jV (aJ C_row_by hr aS (aA (pv 2) (aA (pv 9) aC))) (cL cG (pv 5) (pv 9) (fun _ _=>rfl)) (aW _))))) (aE (aV pZ)) aY))))
   (aE (aV pZ)))))))))))),?_⟩
  (try rw[cP]);(try rw[cxK1])
  refine⟨_,rfl,a,ns,rfl,hS,fun D ls n H1 s1 hd hwl hn hne hll=>?_⟩;have hok:eK ls n:=⟨hne,by omega,⟨⟨by omega,by omega⟩,rS.len (by omega)⟩,hwl.1,hwl.2⟩;refine⟨_,rfl,?_⟩;intro x dx nx ndx nex;have s2:aK H1 (upd (upd H1 dx (.own x)) x (.ins ad.Web dx [])):=fun b o e=>by
   rw[aM (aO e nx),aM (aO e ndx)];exact e
  refine⟨x,dx,D,ls,n,rfl,aD,SqL.of (s2 D _ hd),hok,fun tp ms H2 hp2 hw2 k2 hx2 ht2=>⟨rfl,?_⟩⟩;have s2:aK H1 H2:=fun b o e=>k2 b o (s2 b o e) (aO e nx)
  have hW:fL ad.Web H2 x tp n ms:=⟨⟨dx,hx2⟩,ht2⟩;have hokm:=hok.perm hp2;have hd2:=s2 D _ hd;obtain⟨m0,hm0⟩:∃ m0,ms[0]?=some m0:=⟨ms[0]'(cn.mpr hokm.1),aa _⟩;have hm0m:=au hm0;have hmsn:=hokm.2.2.2.2;have hml:=hp2.length_eq;have hxl:∀ l∈ls,1<=l.length∧l.length<=1000:=fun l hl=>by have:=(hwl.1 l hl).1;omega
  have cb:∀ l∈ls,fP l none (some (-(1:Int)))=beg l:=fun l hl=>iZ (hxl l hl).1
  have ce:∀ l∈ls,fP l (some 1) none=l.drop 1:=fun l hl=>jD (k:=1) (hxl l hl).1
  refine⟨_,rfl,D,rfl,⟨_,SqL.of hd2⟩,?_⟩;refine iJ (fun v=>T (beg (unT v))) (bC (SqL.of hd2)) (by rw[aR];omega) (fun v H3 hv s3 N hN=>?_) fun D1 H3 hD1 s3 hd3=>?_
  ·obtain⟨l,hl,rfl⟩:=ao.mp hv
   have hll:=hxl l hl;have z:=hN H3 (aK.refl _);rw[cS,<- cb l hl] at z;exact⟨_,rfl,_,rfl,_,rfl,_,rfl,(by omega),z⟩
  rw[fU (f:=fun l=>T (beg l)),show ls.map (fun l=>T (beg l))=(ls.map beg).map T by rw[bj];rfl] at hd3;refine⟨_,rfl,D,rfl,⟨_,SqL.of (s3 D _ hd2)⟩,?_⟩;refine iJ (fun v=>T ((unT v).drop 1)) (bC (SqL.of (s3 D _ hd2))) (by rw[aR];omega) (fun v H4 hv s4 N hN=>?_) fun D2 H4 hD2 s4 hd4=>?_
  ·obtain⟨l,hl,rfl⟩:=ao.mp hv
   have hll:=hxl l hl;have z:=hN H4 (aK.refl _);rw[cS,<- ce l hl] at z;exact⟨_,rfl,_,rfl,_,rfl,(by omega),z⟩
  rw[fU (f:=fun l=>T (l.drop 1)),show ls.map (fun l=>T (l.drop 1))=(ls.map fun l=>l.drop 1).map T by rw[bj];rfl] at hd4;refine⟨D1,D2,_,_,rfl,rfl,SqL.of (s4 D1 _ hd3),SqL.of hd4,(by rw[aR,aR,aR,aR];omega),fun D3 hD3=>?_⟩;have s5:=aH (o:=.lst ((ls.map beg).map T++(ls.map fun l=>l.drop 1).map T)) hD3;refine⟨D3,ls.map beg++ls.map (fun l=>l.drop 1),rfl,SqL.of (by rw[bc];exact aD),(by rw[ak,aR,aR];omega),fun S hSn=>?_⟩;have s6:=aH (o:=lQ w S (uniq (ls.map beg++ls.map fun l=>l.drop 1))) hSn;have ul:=lK (ls.map beg++ls.map fun l=>l.drop 1) (ls.map beg++ls.map fun l=>l.drop 1).length;have ul':(uniq (ls.map beg++ls.map fun l=>l.drop 1)).length<64:=by
   refine eh ul ?_;rw[ak,aR,aR];omega
  refine⟨S,_,rfl,aD,ul',fun ev D4 hD4 hp4 hw4=>?_⟩;have s7:=aH (o:=.lst (ev.map T)) hD4;have s27:=s3.trans (s4.trans (s5.trans (s6.trans s7)));have hevn:ev.Nodup:=hp4.nodup_iff.mpr (mH _);have hev:=Dt.Ek hevn hw4;have hevm:∀ z,z∈ev↔IsP ms z:=fun z=>by
   rw[hp4.mem_iff,gA,bu,ao,ao];constructor
   ·rintro (⟨l,hl,e⟩ | ⟨l,hl,e⟩)
    ·exact⟨l,hp2.mem_iff.mpr hl,.inl e.symm⟩
    ·exact⟨l,hp2.mem_iff.mpr hl,.inr e.symm⟩
   ·rintro⟨l,hl,e | e⟩
    ·exact .inl ⟨l,hp2.mem_iff.mp hl,e.symm⟩
    ·exact .inr ⟨l,hp2.mem_iff.mp hl,e.symm⟩
  have hd7:upd (upd (upd H4 D3 (.lst ((ls.map beg).map T++(ls.map fun l=>l.drop 1).map T))) S (lQ w S (uniq (ls.map beg++ls.map fun l=>l.drop 1)))) D4 (.lst (ev.map T)) D4=some (.lst (ev.map T)):=aD;refine⟨_,rfl,D,ls,ms,m0,n,rfl,SqL.of (s27 D _ hd2),⟨hne,hwl.2,by omega,⟨by omega,by omega⟩,fun w hw=>(hwl.1 w hw).1⟩,hp2,hw2,hm0,fun rg D8 H8 hrp hrw s8 hd8=>?_⟩;have hrg:=Jn hokm (by omega) hw2 hm0 hrp hrw;have s28:=s27.trans s8;refine⟨_,rfl,_,rfl,D,D4,ls,ms,ev,n,rfl,SqL.of (s28 D _ hd2),SqL.of (s8 D4 _ hd7),⟨hne,hwl.2,by omega,⟨by omega,by omega⟩,fun w hw=>(hwl.1 w hw).1⟩,hp2,hw2,⟨hev,hevm⟩,fun rw' D9 H9 hop how s9 hd9=>?_⟩;have hrwl:rw'.length<=3628800:=by
   rw[hop.length_eq];exact av (Dt.uA hevn hevn hmsn hokm.1) (nB (by omega))
  have hrgl:rg.length=Dt.eN (Dt.rm ms m0) (Wd.fin m0) (Wd.beg m0):=by rw[hrg,aR];rfl
  obtain⟨g,hG,hsum,hfrom,hrl,hby⟩:=Pd hokm (by omega) hw2 hev hevm hop how;have hd8:=s9 D8 _ hd8;have s29:=s28.trans s9;have hd49:=s9 D4 _ (s8 D4 _ hd7);obtain⟨w0,hw0⟩:∃ w0,ls[0]?=some w0:=⟨ls[0]'(cn.mpr hne),aa _⟩;have hw0n:w0.length=n:=(hwl.1 w0 (au hw0)).1;have ct:∀ l:List Nat,fP l none (some (((w0.length:Nat):Int)-1))=l.take (n-1):=fun l=>by rw[hw0n,show ((n:Nat):Int)-1=((n-1:Nat):Int) by omega,pG]
  refine⟨_,rfl,x,tp,n,ms,m0,rfl,hW.on s29,hokm,hm0,fun H10 s10=>?_⟩;have s210:=s29.trans s10;refine⟨_,rfl,D8,_,rfl,.inl (SqL.of (s10 D8 _ hd8)),((Dt.eN (Dt.rm ms m0) (Wd.fin m0) (Wd.beg m0):Nat):Int),(by rw[aR,hrgl];rfl),_,rfl,tI ?_⟩;refine⟨_,rfl,x,tp,n,ms,g,m0,rfl,hW.on s210,hokm,hm0,hG,fun ps H11 hps hpm s11=>?_⟩;rw[show Xw g ps=rw'.length by rw[Ae hev hps hevm hpm];exact hsum];have s211:=s210.trans s11;have hd9b:=s11 D9 _ (s10 D9 _ hd9);have hd8b:=s11 D8 _ (s10 D8 _ hd8);have hd4b:=s11 D4 _ (s10 D4 _ hd49);refine⟨_,rfl,D9,_,rfl,.inl (SqL.of hd9b),((rw'.length:Nat):Int),(by rw[aR];rfl),_,rfl,tI ?_⟩;refine⟨_,rfl,D,_,_,_,rfl,rfl,SqL.of (s211 D _ hd2),bO (j:=0) (by rw[ah,hw0];rfl),_,rfl,(by omega),_,_,rfl,rfl,?_⟩;refine⟨_,rfl,D4,rfl,⟨_,SqL.of hd4b⟩,?_⟩;refine dA (K:=K) (a:=D4) (xs:=ev.map T) (fun i σ G=>aK H2 G∧G D4=some (.lst (ev.map T))∧G D8=some (.lst (rg.map T))∧G D9=some (.lst (rw'.map T))∧∃ v7:Option V,σ=[some (.ref a),some (.ref D),some (.ref x),some (.ref D4),some (.ref D8),some (.ref D9),some (.int (((w0.length:Nat):Int)-1)),v7,none,none]) ⟨s211,hd4b,hd8b,hd9b,none,rfl⟩ (fun i σ G _ h=>SqL.of h.2.1) ?_ ?_
  ·rintro i y σ G hi ⟨sG,h4,h8,h9,v7,rfl⟩
   obtain⟨t,hti,rfl⟩:∃ t,ev[i]?=some t∧T t=y:=by rw[ah] at hi;exact ba.mp hi
   have ht:=au hti;refine⟨_,rfl,_,rfl,x,tp,n,ms,g,m0,t,rfl,hW.on sG,hokm,hm0,hG,fun z=>absurd ((hevm t).mp ht) z,fun _ G1 t1=>?_⟩;refine⟨_,rfl,D9,rfl,⟨_,SqL.of (t1 D9 _ h9)⟩,?_⟩;refine gZ (fun v=>decide ((unT v).take (n-1)=t)) (fun v=>v) (bC (SqL.of (t1 D9 _ h9))) (by rw[aR];omega) (fun v G5 hv s5 N hN=>?_) (fun v G5 hv hp s5 N hN=>?_) fun D5 G5 hD5 s5 hd5=>?_
   ·obtain⟨l,hl,rfl⟩:=ao.mp hv
    have hll:=hrl l hl;have z:=hN G5 (aK.refl _);rw[cS,<- ct l] at z;exact⟨_,rfl,_,rfl,_,rfl,_,rfl,(by omega),_,rfl,_,rfl,_,rfl,_,rfl,z⟩
   ·exact⟨_,rfl,hN G5 (aK.refl _)⟩
   rw[show (rw'.map T).filter (fun v=>decide ((unT v).take (n-1)=t))=(rw'.filter fun r=>decide (r.take (n-1)=t)).map T from cO (p:=fun r=>decide (r.take (n-1)=t)) rw',ml] at hd5;refine⟨D5,_,rfl,.inl (SqL.of hd5),((g t:Nat):Int),(by rw[aR,hfrom t ht];rfl),_,rfl,tI ?_⟩;have t15:=t1.trans s5;exact⟨sG.trans t15,t15 D4 _ h4,t15 D8 _ h8,t15 D9 _ h9,_,rfl⟩
  ·rintro σ G ⟨sG,h4,h8,h9,v7,rfl⟩
   refine⟨_,rfl,D8,_,rfl,.inl (SqL.of h8),_,_,rfl,?_⟩;rw[show (if (5:Int)<(((rg.map T).length:Nat):Int) then (5:Int) else (((rg.map T).length:Nat):Int))=((min rg.length 5:Nat):Int) by rw[aR];split <;> omega];refine⟨_,rfl,by omega,by omega,?_⟩;refine fQ (fun i σ G=>aK H2 G∧G D8=some (.lst (rg.map T))∧G D9=some (.lst (rw'.map T))∧∃ v7 v8:Option V,σ=[some (.ref a),some (.ref D),some (.ref x),some (.ref D4),some (.ref D8),some (.ref D9),some (.int (((w0.length:Nat):Int)-1)),v7,v8,none]) ⟨sG,h8,h9,v7,none,rfl⟩ ?_ ?_
   ·rintro i σ G hi ⟨sG,h8,h9,v7,v8,rfl⟩
    have hil:i<rg.length:=by omega
    obtain⟨us,hus⟩:∃ us,(Dt.cH (Dt.rm ms m0).length (Dt.rm ms m0) (Wd.fin m0) (Wd.beg m0))[i]?=some us:=⟨_,aa (by rw[hrgl] at hil;exact hil)⟩;have hri:rg[i]?=some (Dt.rT m0 us):=by rw[hrg,ah,hus];rfl
    refine⟨_,rfl,_,rfl,x,tp,n,ms,m0,_,rfl,hW.on sG,hokm,hm0,fun z=>absurd ⟨by omega,by omega⟩ z,fun j2 us2 e2 hus2 G1 t1=>?_⟩;obtain rfl:i=j2:=by omega
    obtain rfl:us2=us:=by rw[hus] at hus2;exact (a8 hus2).symm
    refine⟨_,rfl,_,rfl,D8,_,_,_,rfl,rfl,SqL.of (t1 D8 _ h8),(show atI (rg.map T) (0+(i:Int))=some (T (Dt.rT m0 us2)) by rw[Int.zero_add];exact bO (by rw[ah,hri];rfl)),_,rfl,_,rfl,_,rfl,?_⟩;refine itN (by rw[decide_eq_true rfl];exact am) ?_;exact⟨sG.trans t1,t1 D8 _ h8,t1 D9 _ h9,_,_,rfl⟩
   ·rintro σ G ⟨sG,h8,h9,v7,v8,rfl⟩
    refine⟨_,rfl,D9,_,rfl,.inl (SqL.of h9),_,_,rfl,?_⟩;rw[show (if (4:Int)<(((rw'.map T).length:Nat):Int) then (4:Int) else (((rw'.map T).length:Nat):Int))=((min rw'.length 4:Nat):Int) by rw[aR];split <;> omega];refine⟨_,rfl,by omega,by omega,?_⟩;refine fQ (fun i σ G=>aK H2 G∧G D9=some (.lst (rw'.map T))∧∃ v7 v8 v9:Option V,σ=[some (.ref a),some (.ref D),some (.ref x),some (.ref D4),some (.ref D8),some (.ref D9),some (.int (((w0.length:Nat):Int)-1)),v7,v8,v9]) ⟨sG,h9,v7,v8,none,rfl⟩ ?_ ?_
    ·rintro i σ G hi ⟨sG,h9,v7,v8,v9,rfl⟩
     have hil:i<rw'.length:=by omega
     have row1:∀ (j:Nat) (z:Int),z=(j:Int)->j<rw'.length->∃ us p q r',jA us ms p q∧(Dt.rws ms p q ev)[j]?=some r'∧Ml ms p q ev=rw'.length∧atI (rw'.map T) z=some (T (Dt.rX r')):=fun j z hz hj=>by
      obtain⟨us,p,q,r',h1,h2,h3,h4⟩:=hby j _ (aa hj);refine⟨us,p,q,r',h1,h2,h4,?_⟩;rw[hz];exact bO (by rw[ah,aa hj,h3];rfl)
     refine⟨_,rfl,D9,_,rfl,.inl (SqL.of h9),_,_,rfl,rfl,_,rfl,_,_,rfl,rfl,?_⟩;obtain⟨us,p,q1,r1,g1,g2,g3,g4⟩:=row1 i (0+(i:Int)) (by omega) hil;refine⟨_,rfl,_,rfl,x,tp,n,ms,us,p,q1,m0,ev,_,rfl,⟨hW.on sG,hokm,hm0,g1,hev,hevm⟩,fun z=>absurd ⟨by omega,by omega⟩ z,fun j2 r2 e2 hr2 G1 t1=>?_⟩;obtain rfl:i=j2:=by omega
     obtain rfl:r2=r1:=by rw[g2] at hr2;exact (a8 hr2).symm
     refine⟨_,rfl,_,rfl,D9,_,_,_,rfl,rfl,SqL.of (t1 D9 _ h9),g4,_,rfl,_,rfl,_,rfl,?_⟩;refine itN (by rw[decide_eq_true rfl];exact am) ?_;obtain⟨us',p',q2,r3,g1,g2,g3,g4⟩:=row1 (rw'.length-1-i) ((((rw'.map T).length:Nat):Int)-1-(0+(i:Int))) (by rw[aR];omega) (by omega);refine⟨_,rfl,_,rfl,x,tp,n,ms,us',p',q2,m0,ev,_,rfl,⟨hW.on (sG.trans t1),hokm,hm0,g1,hev,hevm⟩,fun z=>absurd ⟨by rw[aR];omega,by rw[aR];omega⟩ z,fun j2 r2 e2 hr2 G2 t2=>?_⟩;obtain rfl:rw'.length-1-i=j2:=by rw[aR] at e2;omega
     obtain rfl:r2=r3:=by rw[g2] at hr2;exact (a8 hr2).symm
     have t12:=t1.trans t2;refine⟨_,rfl,_,rfl,D9,_,_,_,rfl,rfl,SqL.of (t12 D9 _ h9),g4,_,rfl,_,rfl,_,rfl,?_⟩;refine itN (by rw[decide_eq_true rfl];exact am) ?_;exact⟨sG.trans t12,t12 D9 _ h9,_,_,_,rfl⟩
    ·rintro σ G ⟨sG,h9,v7,v8,v9,rfl⟩
     exact q G
end
def HF (K:ae)(f:Addr)(nm:Str)(st:Stmt):Prop:=∃ (oc:Value) (od:Option Addr) (kV dc pm:Value) (an:Option Addr) (cd ct:Value) (sl:Array (Option Value)),b8 K mainGlobals nm=some (some (.ref f))∧K.lookup f=some ⟨oc,od,.func (gn nm nm (gI st) (fG st) (aF st) .none kV dc pm an cd ct),sl⟩∧ja K cd nm=true∧ff K (.ref f)=true
theorem HF.go {K:ae}{f:Addr}{nm:Str}{st:Stmt}(h:HF K f nm st):∃ fd,Fun K nm nm st f fd∧b8 K mainGlobals nm=some (some (.ref f)):=by
 obtain⟨oc,od,kV,dc,pm,an,cd,ct,sl,a,l,c,k⟩:=h;exact⟨_,Fi (st:=st) l c k,a⟩
theorem hf_mk {K:ae}{f:Addr}{nm:Str}{st:Stmt}{oc:Value}{od:Option Addr}{kV dc pm:Value}{an:Option Addr}{cd ct:Value}{sl:Array (Option Value)}(a:b8 K mainGlobals nm=some (some (.ref f)))(l:K.lookup f=some ⟨oc,od,.func (gn nm nm (gI st) (fG st) (aF st) .none kV dc pm an cd ct),sl⟩)(c:ja K cd nm=true)(k:ff K (.ref f)=true):HF K f nm st:=⟨oc,od,kV,dc,pm,an,cd,ct,sl,a,l,c,k⟩
theorem mkC (P:Program)(w:World){K:ae}{mg:Str->Option Value}{h:Heap}(base:Heap)(X:K.In h)(G:h.Ns mainGlobals mg){nm:Str}{st:Stmt}{f:Addr}{fd:FuncData}{k:Nat}{ps:List Str}{sp:Sp}(a:b8 K mainGlobals nm=some (some (.ref f)))(F:Fun K nm nm st f fd)(ok:bW P w K mg base (CX1 P w) k f fd ps sp)(b:kR K fd ps []):Cal P w K mg base (CX1 P w) nm k ps sp:=⟨⟨_,_,ok,da X G a,F.kp,b⟩⟩
theorem all_mk {l:o8}{w:World}{K:ae}{h:Heap}{mg:Str->Option Value}{fa:Addr}(X:K.In h)(G:h.Ns mainGlobals mg)(hfa:mg "law" = some (.ref fa))
  {f_0 f_1 f_2 f_3 f_4 f_5 f_6 f_7 f_8 f_9 f_10 f_11:Addr}
  {f_12:Addr} {od_12 an_12:Option Addr} {sl_12:Array (Option Value)} {oc_12 kV_12 dc_12 pm_12 cd_12 ct_12:Value}
  {f_13 f_14 f_15 f_16 f_17 f_18 f_19 f_20 f_21 f_22 f_23 f_24 f_25 f_26 f_27 f_28 f_29 f_30 f_31 f_32 f_33 f_34 f_35 f_36 f_37 f_38 f_39 f_40 f_41 f_42 f_43 f_44 f_45 f_46 f_47 f_48:Addr}
  {f_49:Addr} {od_49 an_49:Option Addr} {sl_49:Array (Option Value)} {oc_49 kV_49 dc_49 pm_49 cd_49 ct_49:Value}
  {c_BadKinds:Addr}
  {c_BadWord:Addr}
  {c_TooMany:Addr}
  {c_NoSuch:Addr}
  {c_Web:Addr}
  {c_KNOWN_TIMES:Addr}
  {u_FIRST_PRIME:Value}
  {u_STEP:Value}
  {u_LETTERS:Value}
  {u_LONGEST:Value}
  {u_MOST_OF_A_WEB:Value}
  {u_LONGEST_OF_A_WEB:Value}
  (h_0:HF K f_0 "further_times" gD)
  (h_1:HF K f_1 "inverse" oW)
  (h_2:HF K f_2 "lowered" lI)
  (h_3:HF K f_3 "first_other_than_nought" cU)
  (h_4:HF K f_4 "determinant_rest" cI)
  (h_5:HF K f_5 "greatest_of" fS)
  (h_6:HF K f_6 "determinant" iQ)
  (h_7:HF K f_7 "looked_kinds" hX)
  (h_8:HF K f_8 "looked_length" gE)
  (h_9:HF K f_9 "letters" pB)
  (h_10:HF K f_10 "looked" sY)
  (h_11:HF K f_11 "looked_web" jW)
  (a_12:eg K (.ref c_Web) "__init__" = some (some (.ref f_12))) (l_12:K.lookup f_12=some ⟨oc_12,od_12,.func (gn "__init__" "Web.__init__" (gI fR) (fG fR) (aF fR) .none kV_12 dc_12 pm_12 an_12 cd_12 ct_12),sl_12⟩) (c_12:ja K cd_12 "Web.__init__" = true) (k_12:ff K (.ref f_12)=true) (i_Web_init:u4 K (.ref f_12)=true)
  (h_13:HF K f_13 "begin_of" mI)
  (h_14:HF K f_14 "end_of" sU)
  (h_15:HF K f_15 "pieces" lB)
  (h_16:HF K f_16 "outs" xU)
  (h_17:HF K f_17 "excess" kK)
  (h_18:HF K f_18 "hanging_by" jO)
  (h_19:HF K f_19 "hanging" oS)
  (h_20:HF K f_20 "why_apart" kN)
  (h_21:HF K f_21 "why_no_ring" iP)
  (h_22:HF K f_22 "why_no_row" gL)
  (h_23:HF K f_23 "row_ends" gS)
  (h_24:HF K f_24 "without" lH)
  (h_25:HF K f_25 "choice_row" eW)
  (h_26:HF K f_26 "choices_counted" dZ)
  (h_27:HF K f_27 "is_even" jC)
  (h_28:HF K f_28 "by_begin" mJ)
  (h_29:HF K f_29 "product_up_to" gG)
  (h_30:HF K f_30 "ways_on" pU)
  (h_31:HF K f_31 "way_by" uQ)
  (h_32:HF K f_32 "ring_count" jN)
  (h_33:HF K f_33 "ring_by" pK)
  (h_34:HF K f_34 "row_counts" jT)
  (h_35:HF K f_35 "row_count" lD)
  (h_36:HF K f_36 "rows_from" kP)
  (h_37:HF K f_37 "row_end" oB)
  (h_38:HF K f_38 "row_by" uP)
  (h_39:HF K f_39 "_law_cell_at" gT)
  (h_40:HF K f_40 "_law_whole" jR)
  (h_41:HF K f_41 "_law_walk" iE)
  (h_42:HF K f_42 "_law_ring_words" fE)
  (h_43:HF K f_43 "_law_every" gM)
  (h_44:HF K f_44 "_law_digit_words" eS)
  (h_45:HF K f_45 "_law_some_words" fC)
  (h_46:HF K f_46 "_law_orders" dW)
  (h_47:HF K f_47 "_law_rings" fJ)
  (h_48:HF K f_48 "_law_rows" iC)
  (a_49:b8 K mainGlobals "law" = some (some (.ref f_49))) (l_49:K.lookup f_49=some ⟨oc_49,od_49,.func (gn "law" "law" (gI jZ) (fG jZ) (aF jZ) .none kV_49 dc_49 pm_49 an_49 cd_49 ct_49),sl_49⟩) (c_49:ja K cd_49 "law" = true) (k_49:ff K (.ref f_49)=true)
  (z_abs:b8 K mainGlobals "abs" = some none)
  (z_bool:b8 K mainGlobals "bool" = some none)
  (z_enumerate:b8 K mainGlobals "enumerate" = some none)
  (z_int:b8 K mainGlobals "int" = some none)
  (z_isinstance:b8 K mainGlobals "isinstance" = some none)
  (z_len:b8 K mainGlobals "len" = some none)
  (z_list:b8 K mainGlobals "list" = some none)
  (z_min:b8 K mainGlobals "min" = some none)
  (z_range:b8 K mainGlobals "range" = some none)
  (z_set:b8 K mainGlobals "set" = some none)
  (z_sorted:b8 K mainGlobals "sorted" = some none)
  (z_sum:b8 K mainGlobals "sum" = some none)
  (z_tuple:b8 K mainGlobals "tuple" = some none)
  (z_zip:b8 K mainGlobals "zip" = some none)
  (y_BadKinds:b8 K mainGlobals "BadKinds" = some (some (.ref c_BadKinds)))
  (y_BadWord:b8 K mainGlobals "BadWord" = some (some (.ref c_BadWord)))
  (y_TooMany:b8 K mainGlobals "TooMany" = some (some (.ref c_TooMany)))
  (y_NoSuch:b8 K mainGlobals "NoSuch" = some (some (.ref c_NoSuch)))
  (y_Web:b8 K mainGlobals "Web" = some (some (.ref c_Web)))
  (y_KNOWN_TIMES:b8 K mainGlobals "KNOWN_TIMES" = some (some (.ref c_KNOWN_TIMES)))
  (e_BadKinds:ke K c_BadKinds Ks "ValueError.__new__" = true)
  (e_BadWord:ke K c_BadWord Ks "ValueError.__new__" = true)
  (e_TooMany:ke K c_TooMany Ks "ValueError.__new__" = true)
  (e_NoSuch:ke K c_NoSuch Ks "ValueError.__new__" = true)
  (g_FIRST_PRIME:b8 K mainGlobals "FIRST_PRIME" = some (some u_FIRST_PRIME)) (r_FIRST_PRIME:bE (.int 2305843009213693951) u_FIRST_PRIME)
  (g_STEP:b8 K mainGlobals "STEP" = some (some u_STEP)) (r_STEP:bE (.int 6277101735386680763835789423207666416102355444464034512896) u_STEP)
  (g_LETTERS:b8 K mainGlobals "LETTERS" = some (some u_LETTERS)) (r_LETTERS:bE (T [97,98,99,100,101,102]) u_LETTERS)
  (g_LONGEST:b8 K mainGlobals "LONGEST" = some (some u_LONGEST)) (r_LONGEST:bE (.int 24) u_LONGEST)
  (g_MOST_OF_A_WEB:b8 K mainGlobals "MOST_OF_A_WEB" = some (some u_MOST_OF_A_WEB)) (r_MOST_OF_A_WEB:bE (.int 64) u_MOST_OF_A_WEB)
  (g_LONGEST_OF_A_WEB:b8 K mainGlobals "LONGEST_OF_A_WEB" = some (some u_LONGEST_OF_A_WEB)) (r_LONGEST_OF_A_WEB:bE (.int 8) u_LONGEST_OF_A_WEB)
  (kt:tupIs K c_KNOWN_TIMES [133,211,598,652,721,850,1282,1417,1582,1681,1726,1837,1885,2017,2377,2383,2452,2476,2530,2611,2662,2698,2773,2878,2917,2980,2998,3082,3238,3250,3343,3421,3427,3670,3817,4162,4252,4447,4468,4621,4630,4747,4867,4891,4915,5128,5143,5236,5401,5587,5650,5803,5833,5923,5986,6202,6235,6286,6496,6526,6736,7093,7561,7696,7831,7855,7882,7927,8143,8248]=true)
  (pg_Web:ln K c_Web Str.empty=true) (hd_Web:kr K c_Web=true) (po_Web:m8 K c_Web=true) (sa_Web:eg K (.ref c_Web) "__setattr__" = some (some (.builtin "object.__setattr__"))) (mk_Web:o6 K c_Web=true) (kc_Web:ff K (.ref c_Web)=true)
  (na_Web_words:eg K (.ref c_Web) "words" = some none)
  (na_Web_length:eg K (.ref c_Web) "length" = some none) :
  ∃ fd:FuncData,(∀ (s:Shared) (v:Value),BindsTo s fd ⟨[v],[]⟩ [("script",v)])∧∀ base:Heap,K.In base->base.Ns mainGlobals mg->bW l.prog w K mg base (CX1 l.prog w) 14 fa fd ["script"] (Gw K):=by
 have e:=hfa.symm.trans (da X G a_49);cases e;have tt:Txt K mg ⟨c_BadKinds,c_BadWord,c_TooMany,c_NoSuch,c_Web,c_KNOWN_TIMES,u_FIRST_PRIME,u_STEP,u_LETTERS,u_LONGEST,u_MOST_OF_A_WEB,u_LONGEST_OF_A_WEB⟩:=⟨c8 X G z_abs,c8 X G z_bool,c8 X G z_enumerate,c8 X G z_int,c8 X G z_isinstance,c8 X G z_len,c8 X G z_list,c8 X G z_min,c8 X G z_range,c8 X G z_set,c8 X G z_sorted,c8 X G z_sum,c8 X G z_tuple,c8 X G z_zip,da X G y_BadKinds,da X G y_BadWord,da X G y_TooMany,da X G y_NoSuch,da X G y_Web,da X G y_KNOWN_TIMES,⟨da X G y_BadKinds,e_BadKinds⟩,⟨da X G y_BadWord,e_BadWord⟩,⟨da X G y_TooMany,e_TooMany⟩,⟨da X G y_NoSuch,e_NoSuch⟩,da X G g_FIRST_PRIME,r_FIRST_PRIME,da X G g_STEP,r_STEP,da X G g_LETTERS,r_LETTERS,da X G g_LONGEST,r_LONGEST,da X G g_MOST_OF_A_WEB,r_MOST_OF_A_WEB,da X G g_LONGEST_OF_A_WEB,r_LONGEST_OF_A_WEB,kt,⟨pg_Web,hd_Web,po_Web,sa_Web⟩,na_Web_words,na_Web_length⟩;obtain⟨_,F_0,a_0⟩:=h_0.go;have b_0:=F_0.binds (ps:=["place", "last"]) fun _ _ _ _ _ _ us hl=>L2.on2 (C:=fun us=>bindArgs _ ⟨us,[]⟩=pure (cg _ us)) hl fun _ _=>rfl
 obtain⟨_,F_1,a_1⟩:=h_1.go;have b_1:=F_1.binds (ps:=["number", "prime"]) fun _ _ _ _ _ _ us hl=>L2.on2 (C:=fun us=>bindArgs _ ⟨us,[]⟩=pure (cg _ us)) hl fun _ _=>rfl
 obtain⟨_,F_2,a_2⟩:=h_2.go;have b_2:=F_2.binds (ps:=["row", "top", "back", "prime"]) fun _ _ _ _ _ _ us hl=>L2.on4 (C:=fun us=>bindArgs _ ⟨us,[]⟩=pure (cg _ us)) hl fun _ _ _ _=>rfl
 obtain⟨_,F_3,a_3⟩:=h_3.go;have b_3:=F_3.binds (ps:=["numbers"]) fun _ _ _ _ _ _ us hl=>L2.on1 (C:=fun us=>bindArgs _ ⟨us,[]⟩=pure (cg _ us)) hl fun _=>rfl
 obtain⟨_,F_4,a_4⟩:=h_4.go;have b_4:=F_4.binds (ps:=["square", "prime"]) fun _ _ _ _ _ _ us hl=>L2.on2 (C:=fun us=>bindArgs _ ⟨us,[]⟩=pure (cg _ us)) hl fun _ _=>rfl
 obtain⟨_,F_5,a_5⟩:=h_5.go;have b_5:=F_5.binds (ps:=["square"]) fun _ _ _ _ _ _ us hl=>L2.on1 (C:=fun us=>bindArgs _ ⟨us,[]⟩=pure (cg _ us)) hl fun _=>rfl
 obtain⟨_,F_6,a_6⟩:=h_6.go;have b_6:=F_6.binds (ps:=["square"]) fun _ _ _ _ _ _ us hl=>L2.on1 (C:=fun us=>bindArgs _ ⟨us,[]⟩=pure (cg _ us)) hl fun _=>rfl
 obtain⟨_,F_7,a_7⟩:=h_7.go;have b_7:=F_7.binds (ps:=["kinds"]) fun _ _ _ _ _ _ us hl=>L2.on1 (C:=fun us=>bindArgs _ ⟨us,[]⟩=pure (cg _ us)) hl fun _=>rfl
 obtain⟨_,F_8,a_8⟩:=h_8.go;have b_8:=F_8.binds (ps:=["length", "kinds"]) fun _ _ _ _ _ _ us hl=>L2.on2 (C:=fun us=>bindArgs _ ⟨us,[]⟩=pure (cg _ us)) hl fun _ _=>rfl
 obtain⟨_,F_9,a_9⟩:=h_9.go;have b_9:=F_9.binds (ps:=["kinds"]) fun _ _ _ _ _ _ us hl=>L2.on1 (C:=fun us=>bindArgs _ ⟨us,[]⟩=pure (cg _ us)) hl fun _=>rfl
 obtain⟨_,F_10,a_10⟩:=h_10.go;have b_10:=F_10.binds (ps:=["word", "kinds"]) fun _ _ _ _ _ _ us hl=>L2.on2 (C:=fun us=>bindArgs _ ⟨us,[]⟩=pure (cg _ us)) hl fun _ _=>rfl
 obtain⟨_,F_11,a_11⟩:=h_11.go;have b_11:=F_11.binds (ps:=["words"]) fun _ _ _ _ _ _ us hl=>L2.on1 (C:=fun us=>bindArgs _ ⟨us,[]⟩=pure (cg _ us)) hl fun _=>rfl
 have F_12:=Fi (st:=fR) l_12 c_12 k_12;have b_12:=F_12.binds (ps:=["self", "words"]) fun _ _ _ _ _ _ us hl=>L2.on2 (C:=fun us=>bindArgs _ ⟨us,[]⟩=pure (cg _ us)) hl fun _ _=>rfl
 obtain⟨_,F_13,a_13⟩:=h_13.go;have b_13:=F_13.binds (ps:=["word"]) fun _ _ _ _ _ _ us hl=>L2.on1 (C:=fun us=>bindArgs _ ⟨us,[]⟩=pure (cg _ us)) hl fun _=>rfl
 obtain⟨_,F_14,a_14⟩:=h_14.go;have b_14:=F_14.binds (ps:=["word"]) fun _ _ _ _ _ _ us hl=>L2.on1 (C:=fun us=>bindArgs _ ⟨us,[]⟩=pure (cg _ us)) hl fun _=>rfl
 obtain⟨_,F_15,a_15⟩:=h_15.go;have b_15:=F_15.binds (ps:=["web"]) fun _ _ _ _ _ _ us hl=>L2.on1 (C:=fun us=>bindArgs _ ⟨us,[]⟩=pure (cg _ us)) hl fun _=>rfl
 obtain⟨_,F_16,a_16⟩:=h_16.go;have b_16:=F_16.binds (ps:=["web", "piece"]) fun _ _ _ _ _ _ us hl=>L2.on2 (C:=fun us=>bindArgs _ ⟨us,[]⟩=pure (cg _ us)) hl fun _ _=>rfl
 obtain⟨_,F_17,a_17⟩:=h_17.go;have b_17:=F_17.binds (ps:=["web", "some"]) fun _ _ _ _ _ _ us hl=>L2.on2 (C:=fun us=>bindArgs _ ⟨us,[]⟩=pure (cg _ us)) hl fun _ _=>rfl
 obtain⟨_,F_18,a_18⟩:=h_18.go;have b_18:=F_18.binds (ps:=["words", "piece"]) fun _ _ _ _ _ _ us hl=>L2.on2 (C:=fun us=>bindArgs _ ⟨us,[]⟩=pure (cg _ us)) hl fun _ _=>rfl
 obtain⟨_,F_19,a_19⟩:=h_19.go;have b_19:=F_19.binds (ps:=["web", "piece"]) fun _ _ _ _ _ _ us hl=>L2.on2 (C:=fun us=>bindArgs _ ⟨us,[]⟩=pure (cg _ us)) hl fun _ _=>rfl
 obtain⟨_,F_20,a_20⟩:=h_20.go;have b_20:=F_20.binds (ps:=["web"]) fun _ _ _ _ _ _ us hl=>L2.on1 (C:=fun us=>bindArgs _ ⟨us,[]⟩=pure (cg _ us)) hl fun _=>rfl
 obtain⟨_,F_21,a_21⟩:=h_21.go;have b_21:=F_21.binds (ps:=["web"]) fun _ _ _ _ _ _ us hl=>L2.on1 (C:=fun us=>bindArgs _ ⟨us,[]⟩=pure (cg _ us)) hl fun _=>rfl
 obtain⟨_,F_22,a_22⟩:=h_22.go;have b_22:=F_22.binds (ps:=["web"]) fun _ _ _ _ _ _ us hl=>L2.on1 (C:=fun us=>bindArgs _ ⟨us,[]⟩=pure (cg _ us)) hl fun _=>rfl
 obtain⟨_,F_23,a_23⟩:=h_23.go;have b_23:=F_23.binds (ps:=["web"]) fun _ _ _ _ _ _ us hl=>L2.on1 (C:=fun us=>bindArgs _ ⟨us,[]⟩=pure (cg _ us)) hl fun _=>rfl
 obtain⟨_,F_24,a_24⟩:=h_24.go;have b_24:=F_24.binds (ps:=["words", "word"]) fun _ _ _ _ _ _ us hl=>L2.on2 (C:=fun us=>bindArgs _ ⟨us,[]⟩=pure (cg _ us)) hl fun _ _=>rfl
 obtain⟨_,F_25,a_25⟩:=h_25.go;have b_25:=F_25.binds (ps:=["texts", "text", "words"]) fun _ _ _ _ _ _ us hl=>L2.on3 (C:=fun us=>bindArgs _ ⟨us,[]⟩=pure (cg _ us)) hl fun _ _ _=>rfl
 obtain⟨_,F_26,a_26⟩:=h_26.go;have b_26:=F_26.binds (ps:=["ways"]) fun _ _ _ _ _ _ us hl=>L2.on1 (C:=fun us=>bindArgs _ ⟨us,[]⟩=pure (cg _ us)) hl fun _=>rfl
 obtain⟨_,F_27,a_27⟩:=h_27.go;have b_27:=F_27.binds (ps:=["words", "one", "other"]) fun _ _ _ _ _ _ us hl=>L2.on3 (C:=fun us=>bindArgs _ ⟨us,[]⟩=pure (cg _ us)) hl fun _ _ _=>rfl
 obtain⟨_,F_28,a_28⟩:=h_28.go;have b_28:=F_28.binds (ps:=["words"]) fun _ _ _ _ _ _ us hl=>L2.on1 (C:=fun us=>bindArgs _ ⟨us,[]⟩=pure (cg _ us)) hl fun _=>rfl
 obtain⟨_,F_29,a_29⟩:=h_29.go;have b_29:=F_29.binds (ps:=["many"]) fun _ _ _ _ _ _ us hl=>L2.on1 (C:=fun us=>bindArgs _ ⟨us,[]⟩=pure (cg _ us)) hl fun _=>rfl
 obtain⟨_,F_30,a_30⟩:=h_30.go;have b_30:=F_30.binds (ps:=["words", "one", "other"]) fun _ _ _ _ _ _ us hl=>L2.on3 (C:=fun us=>bindArgs _ ⟨us,[]⟩=pure (cg _ us)) hl fun _ _ _=>rfl
 obtain⟨_,F_31,a_31⟩:=h_31.go;have b_31:=F_31.binds (ps:=["words", "one", "other", "number"]) fun _ _ _ _ _ _ us hl=>L2.on4 (C:=fun us=>bindArgs _ ⟨us,[]⟩=pure (cg _ us)) hl fun _ _ _ _=>rfl
 obtain⟨_,F_32,a_32⟩:=h_32.go;have b_32:=F_32.binds (ps:=["web"]) fun _ _ _ _ _ _ us hl=>L2.on1 (C:=fun us=>bindArgs _ ⟨us,[]⟩=pure (cg _ us)) hl fun _=>rfl
 obtain⟨_,F_33,a_33⟩:=h_33.go;have b_33:=F_33.binds (ps:=["web", "number"]) fun _ _ _ _ _ _ us hl=>L2.on2 (C:=fun us=>bindArgs _ ⟨us,[]⟩=pure (cg _ us)) hl fun _ _=>rfl
 obtain⟨_,F_34,a_34⟩:=h_34.go;have b_34:=F_34.binds (ps:=["web"]) fun _ _ _ _ _ _ us hl=>L2.on1 (C:=fun us=>bindArgs _ ⟨us,[]⟩=pure (cg _ us)) hl fun _=>rfl
 obtain⟨_,F_35,a_35⟩:=h_35.go;have b_35:=F_35.binds (ps:=["web"]) fun _ _ _ _ _ _ us hl=>L2.on1 (C:=fun us=>bindArgs _ ⟨us,[]⟩=pure (cg _ us)) hl fun _=>rfl
 obtain⟨_,F_36,a_36⟩:=h_36.go;have b_36:=F_36.binds (ps:=["web", "piece"]) fun _ _ _ _ _ _ us hl=>L2.on2 (C:=fun us=>bindArgs _ ⟨us,[]⟩=pure (cg _ us)) hl fun _ _=>rfl
 obtain⟨_,F_37,a_37⟩:=h_37.go;have b_37:=F_37.binds (ps:=["web", "piece"]) fun _ _ _ _ _ _ us hl=>L2.on2 (C:=fun us=>bindArgs _ ⟨us,[]⟩=pure (cg _ us)) hl fun _ _=>rfl
 obtain⟨_,F_38,a_38⟩:=h_38.go;have b_38:=F_38.binds (ps:=["web", "number"]) fun _ _ _ _ _ _ us hl=>L2.on2 (C:=fun us=>bindArgs _ ⟨us,[]⟩=pure (cg _ us)) hl fun _ _=>rfl
 obtain⟨_,F_39,a_39⟩:=h_39.go;have b_39:=F_39.binds (ps:=["script", "k"]) fun _ _ _ _ _ _ us hl=>L2.on2 (C:=fun us=>bindArgs _ ⟨us,[]⟩=pure (cg _ us)) hl fun _ _=>rfl
 obtain⟨_,F_40,a_40⟩:=h_40.go;have b_40:=F_40.binds (ps:=["found", "due"]) fun _ _ _ _ _ _ us hl=>L2.on2 (C:=fun us=>bindArgs _ ⟨us,[]⟩=pure (cg _ us)) hl fun _ _=>rfl
 obtain⟨_,F_41,a_41⟩:=h_41.go;have b_41:=F_41.binds (ps:=["cells", "kinds", "first"]) fun _ _ _ _ _ _ us hl=>L2.on3 (C:=fun us=>bindArgs _ ⟨us,[]⟩=pure (cg _ us)) hl fun _ _ _=>rfl
 obtain⟨_,F_42,a_42⟩:=h_42.go;have b_42:=F_42.binds (ps:=["script", "at", "most"]) fun _ _ _ _ _ _ us hl=>L2.on3 (C:=fun us=>bindArgs _ ⟨us,[]⟩=pure (cg _ us)) hl fun _ _ _=>rfl
 obtain⟨_,F_43,a_43⟩:=h_43.go;have b_43:=F_43.binds (ps:=["kinds", "length"]) fun _ _ _ _ _ _ us hl=>L2.on2 (C:=fun us=>bindArgs _ ⟨us,[]⟩=pure (cg _ us)) hl fun _ _=>rfl
 obtain⟨_,F_44,a_44⟩:=h_44.go;have b_44:=F_44.binds (ps:=["cell", "most"]) fun _ _ _ _ _ _ us hl=>L2.on2 (C:=fun us=>bindArgs _ ⟨us,[]⟩=pure (cg _ us)) hl fun _ _=>rfl
 obtain⟨_,F_45,a_45⟩:=h_45.go;have b_45:=F_45.binds (ps:=["script", "at", "most"]) fun _ _ _ _ _ _ us hl=>L2.on3 (C:=fun us=>bindArgs _ ⟨us,[]⟩=pure (cg _ us)) hl fun _ _ _=>rfl
 obtain⟨_,F_46,a_46⟩:=h_46.go;have b_46:=F_46.binds (ps:=["words", "here", "goal"]) fun _ _ _ _ _ _ us hl=>L2.on3 (C:=fun us=>bindArgs _ ⟨us,[]⟩=pure (cg _ us)) hl fun _ _ _=>rfl
 obtain⟨_,F_47,a_47⟩:=h_47.go;have b_47:=F_47.binds (ps:=["words"]) fun _ _ _ _ _ _ us hl=>L2.on1 (C:=fun us=>bindArgs _ ⟨us,[]⟩=pure (cg _ us)) hl fun _=>rfl
 obtain⟨_,F_48,a_48⟩:=h_48.go;have b_48:=F_48.binds (ps:=["words", "every"]) fun _ _ _ _ _ _ us hl=>L2.on2 (C:=fun us=>bindArgs _ ⟨us,[]⟩=pure (cg _ us)) hl fun _ _=>rfl
 have F_49:=Fi (st:=jZ) l_49 c_49 k_49;refine⟨gn "law" "law" (gI jZ) (fG jZ) (aF jZ) .none kV_49 dc_49 pm_49 an_49 cd_49 ct_49,fun s v=>.of_eq rfl,fun base _ _=>?_⟩
 have C_0:=mkC l.prog w base X G a_0 F_0 (pJ F_0 tt) b_0;have C_1:=mkC l.prog w base X G a_1 F_1 (Fk F_1 tt) b_1;have C_2:=mkC l.prog w base X G a_2 F_2 (Du F_2 tt) b_2;have C_3:=mkC l.prog w base X G a_3 F_3 (gU F_3 tt) b_3;have C_4:=mkC l.prog w base X G a_4 F_4 (lU F_4 tt C_3 C_1 C_2) b_4;have C_5:=mkC l.prog w base X G a_5 F_5 (tQ F_5 tt) b_5;have C_6:=mkC l.prog w base X G a_6 F_6 (sZ F_6 tt C_5 C_4 C_0 C_1) b_6;have C_7:=mkC l.prog w base X G a_7 F_7 (qR F_7 tt) b_7;have C_8:=mkC l.prog w base X G a_8 F_8 (pQ F_8 tt C_7) b_8;have C_9:=mkC l.prog w base X G a_9 F_9 (Fn F_9 tt C_7) b_9;have C_10:=mkC l.prog w base X G a_10 F_10 (Ir F_10 tt C_8 C_9) b_10;have C_11:=mkC l.prog w base X G a_11 F_11 (vV F_11 tt C_10) b_11;have C_12:Cam l.prog w K mg base (CX1 l.prog w) "Web" c_Web 5 ["self", "words"] (Er K _):=⟨⟨_,_,As F_12 tt C_11,⟨mk_Web,a_12,i_Web_init,kc_Web⟩,da X G y_Web,b_12⟩⟩
 have C_13:=mkC l.prog w base X G a_13 F_13 (Ba F_13 tt) b_13;have C_14:=mkC l.prog w base X G a_14 F_14 (Ka F_14 tt) b_14;have C_15:=mkC l.prog w base X G a_15 F_15 (Ju F_15 tt C_13 C_14) b_15;have C_16:=mkC l.prog w base X G a_16 F_16 (Ui F_16 tt C_13) b_16;have C_17:=mkC l.prog w base X G a_17 F_17 (Ip F_17 tt C_13 C_14) b_17;have C_18:=mkC l.prog w base X G a_18 F_18 (vF F_18 tt C_13 C_14) b_18;have C_19:=mkC l.prog w base X G a_19 F_19 (Ef F_19 tt C_15 C_18) b_19;have C_20:=mkC l.prog w base X G a_20 F_20 (xY F_20 tt C_15 C_19) b_20;have C_21:=mkC l.prog w base X G a_21 F_21 (tS F_21 tt C_15 C_17 C_20) b_21;have C_22:=mkC l.prog w base X G a_22 F_22 (vJ F_22 tt C_15 C_17 C_20) b_22;have C_23:=mkC l.prog w base X G a_23 F_23 (Am F_23 tt C_22 C_21 C_15 C_17) b_23;have C_24:=mkC l.prog w base X G a_24 F_24 (Dw F_24 tt) b_24;have C_25:=mkC l.prog w base X G a_25 F_25 (vR F_25 tt C_14) b_25;have C_26:=mkC l.prog w base X G a_26 F_26 (mT F_26 tt C_6 C_25) b_26;have C_27:=mkC l.prog w base X G a_27 F_27 (Et F_27 tt C_13 C_14) b_27;have C_28:=mkC l.prog w base X G a_28 F_28 (Cq F_28 tt C_13) b_28;have C_29:=mkC l.prog w base X G a_29 F_29 (pC F_29 tt) b_29;have C_30:=mkC l.prog w base X G a_30 F_30 (Dr F_30 tt C_27 C_28 C_29 C_26) b_30;have C_31:=mkC l.prog w base X G a_31 F_31 (Kl F_31 tt C_28 C_30 C_24 C_14) b_31;have C_32:=mkC l.prog w base X G a_32 F_32 (vE F_32 tt C_30 C_14 C_13) b_32;have C_33:=mkC l.prog w base X G a_33 F_33 (Fp F_33 tt C_32 C_31 C_14 C_13) b_33;have C_34:=mkC l.prog w base X G a_34 F_34 (vU F_34 tt C_32 C_15 C_16 C_22 C_23 C_30) b_34;have C_35:=mkC l.prog w base X G a_35 F_35 (zN F_35 tt C_34) b_35;have C_36:=mkC l.prog w base X G a_36 F_36 (zT F_36 tt C_34) b_36;have C_37:=mkC l.prog w base X G a_37 F_37 (Ez F_37 tt C_23) b_37;have C_38:=mkC l.prog w base X G a_38 F_38 (Le F_38 tt C_34 C_31 C_37) b_38;have C_39:=mkC l.prog w base X G a_39 F_39 (qO F_39 tt) b_39;have C_40:=mkC l.prog w base X G a_40 F_40 (vA F_40 tt) b_40;have C_41:=mkC l.prog w base X G a_41 F_41 (xW F_41 tt) b_41;have C_42:=mkC l.prog w base X G a_42 F_42 (mL F_42 tt C_39 C_41) b_42;have C_43:=mkC l.prog w base X G a_43 F_43 (uZ F_43 tt) b_43;have C_44:=mkC l.prog w base X G a_44 F_44 (lP F_44 tt C_43) b_44;have C_45:=mkC l.prog w base X G a_45 F_45 (mX F_45 tt C_39 C_42 C_44) b_45;have C_46:=mkC l.prog w base X G a_46 F_46 (Im F_46 tt (da X G a_46) F_46.kp b_46 11) b_46;have C_47:=mkC l.prog w base X G a_47 F_47 (vO F_47 tt C_46) b_47;have C_48:=mkC l.prog w base X G a_48 F_48 (xZ F_48 tt C_46) b_48;exact Wn F_49 tt C_45 C_12 C_47 C_48 C_40 C_32 C_35 C_36 C_33 C_38
theorem walk {l : o8} {q : Program} {loose : List Str} {XP : (Str → Option Value) → Heap → Prop} {YP : World → Heap → Prop} {d : DefRec} {K : Params → ae} (hn : l.most = some 63) (hdf : d.params.defaults = [])
  (hY : ∀ (w : World) (h : Heap), YP w h → (K w.params).In h)
  (F : ∀ (w : World) (mg : Str → Option Value) (fa : Addr) (h : Heap), (K w.params).In h → h.Ns mainGlobals mg → mg d.name = some (.ref fa) →
   ∃ fd : FuncData, (∀ (s : Shared) (u : Value), BindsTo s fd ⟨[u], []⟩ [("script", u)]) ∧ ∀ base : Heap, (K w.params).In base → base.Ns mainGlobals mg → bW l.prog w (K w.params) mg base (CX1 l.prog w) 14 fa fd ["script"] (Gw (K w.params))) :
  uv q loose XP YP l.row.toRowW d [] (fun f vs => ud f vs) :=
 L2.Tb (n := 63) (k := 14) (x := "script") (CX := fun w => CX1 l.prog w) (sp := fun w => Gw (K w.params)) hn (by decide) hdf ⟨rfl, by decide, by decide⟩ hY F (fun _ _ a ns hl _ hS => ⟨a, ns, rfl, hS, hl, fun _ => rfl⟩) fun _ _ _ _ _ ⟨_, _, _, _, _, z⟩ => z
end K38
theorem PySem.W.Fast.tw11942624939285897376:True:=trivial
theorem PySem.W.Fast.tw9627518974717802016:True:=trivial
theorem PySem.W.Fast.te18281276817818730176:True:=trivial
theorem PySem.W.Fast.tw2196104132128103296:True:=trivial
theorem PySem.W.Fast.tw15782960659076186689:True:=trivial
theorem PySem.W.Fast.tw8649630237492824001:True:=trivial
theorem PySem.W.Fast.tw967375913963023490:True:=trivial
theorem PySem.W.Fast.tw1418822089254796450:True:=trivial
theorem PySem.W.Fast.tw7768607055528574146:True:=trivial
theorem PySem.W.Fast.tw140968385275335458:True:=trivial
theorem PySem.W.Fast.tw17048026199229054787:True:=trivial
theorem PySem.W.Fast.tw804722009333021924:True:=trivial
theorem PySem.W.Fast.tw3172525034080382436:True:=trivial
theorem PySem.W.Fast.tw2525536110283552388:True:=trivial
theorem PySem.W.Fast.tw6765416726653413701:True:=trivial
theorem PySem.W.Fast.tw16570933406355867301:True:=trivial
theorem PySem.W.Fast.tw259641059755127525:True:=trivial
theorem PySem.W.Fast.tw332427199090071525:True:=trivial
theorem PySem.W.Fast.tw13408670133918982:True:=trivial
theorem PySem.W.Fast.tw10969202737320625990:True:=trivial
theorem PySem.W.Fast.tw11540897500098232551:True:=trivial
theorem PySem.W.Fast.tw11981659716304174887:True:=trivial
theorem PySem.W.Fast.tw5816460569130003816:True:=trivial
theorem PySem.W.Fast.tw17776903385481011144:True:=trivial
theorem PySem.W.Fast.tw8194596967987537001:True:=trivial
theorem PySem.W.Fast.tw3422904237349724009:True:=trivial
theorem PySem.W.Fast.tw10122832240032295146:True:=trivial
theorem PySem.W.Fast.tw7770712238094094250:True:=trivial
theorem PySem.W.Fast.tw16198258379572344459:True:=trivial
theorem PySem.W.Fast.tw3431399191065697099:True:=trivial
theorem PySem.W.Fast.tw5238477510250234827:True:=trivial
theorem PySem.W.Fast.tw4758239114353683500:True:=trivial
theorem PySem.W.Fast.tw15329530379476714828:True:=trivial
theorem PySem.W.Fast.tw9199880851904002860:True:=trivial
theorem PySem.W.Fast.tw9217612189414587213:True:=trivial
theorem PySem.W.Fast.tw13089976354615151631:True:=trivial
theorem PySem.W.Fast.tw2767456700736412815:True:=trivial
theorem PySem.W.Fast.tw3532536536958249104:True:=trivial
theorem PySem.W.Fast.tw7621365384472311984:True:=trivial
theorem PySem.W.Fast.tw4451824804879921968:True:=trivial
theorem PySem.W.Fast.tw14478557285430400594:True:=trivial
theorem PySem.W.Fast.tw6809995648547887730:True:=trivial
theorem PySem.W.Fast.tw17349697617513785074:True:=trivial
theorem PySem.W.Fast.tw4152244695136032754:True:=trivial
theorem PySem.W.Fast.tw528139669790721395:True:=trivial
theorem PySem.W.Fast.tw9146327974392326964:True:=trivial
theorem PySem.W.Fast.tw2703193040333055988:True:=trivial
theorem PySem.W.Fast.tw1140235827433549109:True:=trivial
theorem PySem.W.Fast.tw5249914382356590005:True:=trivial
theorem PySem.W.Fast.tw10256926747079906773:True:=trivial
theorem PySem.W.Fast.tw18360175851169058134:True:=trivial
theorem PySem.W.Fast.tw18251924821960943318:True:=trivial
theorem PySem.W.Fast.tw2023460230031925271:True:=trivial
theorem PySem.W.Fast.tw18209730295982427863:True:=trivial
theorem PySem.W.Fast.tw1510778277181360951:True:=trivial
theorem PySem.W.Fast.tw14774843482538533719:True:=trivial
theorem PySem.W.Fast.tw6658261598734000184:True:=trivial
theorem PySem.W.Fast.tw10074165032022398008:True:=trivial
theorem PySem.W.Fast.tw12855320757915388152:True:=trivial
theorem PySem.W.Fast.tw15649518746380757560:True:=trivial
theorem PySem.W.Fast.tw2357322886763443064:True:=trivial
theorem PySem.W.Fast.tw14198393860746730714:True:=trivial
theorem PySem.W.Fast.tw4774787931932383034:True:=trivial
theorem PySem.W.Fast.tw7744808862664921499:True:=trivial
theorem PySem.W.Fast.tw11450567736761142107:True:=trivial
theorem PySem.W.Fast.tw16666156725881563035:True:=trivial
theorem PySem.W.Fast.tw17361875988698497372:True:=trivial
theorem PySem.W.Fast.tw4744909122963683100:True:=trivial
theorem PySem.W.Fast.tw8273313014955935933:True:=trivial
theorem PySem.W.Fast.tw1168615257741474013:True:=trivial
theorem PySem.W.Fast.tw16654189574337112413:True:=trivial
theorem PySem.W.Fast.tw15322951714985103901:True:=trivial
theorem PySem.W.Fast.tw3947597989597009694:True:=trivial
theorem PySem.W.Fast.tw9000815036836882238:True:=trivial
theorem PySem.W.Fast.tw10726968065077199007:True:=trivial
theorem PySem.W.Fast.tw6825308028482740863:True:=trivial
def PySem.W.Fast.tw3156038034885712245:=PySem.Challenge.pw_onceround_k38_rings_and_rows_by_trial
theorem PySem.W.Fast.te3156038034885712245:PySem.Challenge.pw_onceround_k38_rings_and_rows_by_trial=PySem.W.Fast.tw3156038034885712245:=rfl
end
open PySem PySem.W PyProof.Rows
set_option maxRecDepth 100000 in
set_option maxHeartbeats 0 in
theorem PySem.Challenge.cw_onceround_k38_rings_and_rows_by_trial_holds : PySem.Challenge.rw_onceround_k38_rings_and_rows_by_trial.Holds := by
  w_on; o_law; k_head; (case hw=>w_witness2)
  k_fill
  refine K38.walk (l := PySem.Challenge.rw_onceround_k38_rings_and_rows_by_trial) rfl rfl (fun w h Y => PySem.W.kIn_of Y) ?F
  case F =>
    intro w mg fa h KX G hmg
    refine' K38.all_mk KX G hmg ?h_0 ?h_1 ?h_2 ?h_3 ?h_4 ?h_5 ?h_6 ?h_7 ?h_8 ?h_9 ?h_10 ?h_11 ?a_12 ?l_12 ?c_12 ?k_12 ?i_Web_init ?h_13 ?h_14 ?h_15 ?h_16 ?h_17 ?h_18 ?h_19 ?h_20 ?h_21 ?h_22 ?h_23 ?h_24 ?h_25 ?h_26 ?h_27 ?h_28 ?h_29 ?h_30 ?h_31 ?h_32 ?h_33 ?h_34 ?h_35 ?h_36 ?h_37 ?h_38 ?h_39 ?h_40 ?h_41 ?h_42 ?h_43 ?h_44 ?h_45 ?h_46 ?h_47 ?h_48 ?a_49 ?l_49 ?c_49 ?k_49 ?z_abs ?z_bool ?z_enumerate ?z_int ?z_isinstance ?z_len ?z_list ?z_min ?z_range ?z_set ?z_sorted ?z_sum ?z_tuple ?z_zip ?y_BadKinds ?y_BadWord ?y_TooMany ?y_NoSuch ?y_Web ?y_KNOWN_TIMES ?e_BadKinds ?e_BadWord ?e_TooMany ?e_NoSuch ?g_FIRST_PRIME ?r_FIRST_PRIME ?g_STEP ?r_STEP ?g_LETTERS ?r_LETTERS ?g_LONGEST ?r_LONGEST ?g_MOST_OF_A_WEB ?r_MOST_OF_A_WEB ?g_LONGEST_OF_A_WEB ?r_LONGEST_OF_A_WEB ?kt ?pg_Web ?hd_Web ?po_Web ?sa_Web ?mk_Web ?kc_Web ?na_Web_words ?na_Web_length
    (case y_Web=>k_is)
    (all_goals try (apply K38.hf_mk <;> k_is));(case a_12=>k_is);(case l_12=>k_is);(case c_12=>k_is);(case k_12=>k_is);(case a_49=>k_is);(case l_49=>k_is);(case c_49=>k_is);(case k_49=>k_is);(case z_abs=>k_is);(case z_bool=>k_is);(case z_enumerate=>k_is);(case z_int=>k_is);(case z_isinstance=>k_is);(case z_len=>k_is);(case z_list=>k_is);(case z_min=>k_is);(case z_range=>k_is);(case z_set=>k_is);(case z_sorted=>k_is);(case z_sum=>k_is);(case z_tuple=>k_is);(case z_zip=>k_is);(case y_BadKinds=>k_is);(case y_BadWord=>k_is);(case y_TooMany=>k_is);(case y_NoSuch=>k_is);(case y_KNOWN_TIMES=>k_is);(case e_BadKinds=>kernel_rfl);(case e_BadWord=>kernel_rfl);(case e_TooMany=>kernel_rfl);(case e_NoSuch=>kernel_rfl);(case g_FIRST_PRIME=>k_is);(case r_FIRST_PRIME=>exact ⟨_, rfl⟩);(case g_STEP=>k_is);(case r_STEP=>exact ⟨_, rfl⟩);(case g_LETTERS=>k_is);(case r_LETTERS=>exact ⟨_, rfl⟩);(case g_LONGEST=>k_is);(case r_LONGEST=>exact ⟨_, rfl⟩);(case g_MOST_OF_A_WEB=>k_is);(case r_MOST_OF_A_WEB=>exact ⟨_, rfl⟩);(case g_LONGEST_OF_A_WEB=>k_is);(case r_LONGEST_OF_A_WEB=>exact ⟨_, rfl⟩);(case kt=>kernel_rfl);(case pg_Web=>k_is);(case hd_Web=>k_is);(case po_Web=>k_is);(case sa_Web=>k_is);(case mk_Web=>k_is);(case kc_Web=>k_is);(case na_Web_words=>k_is);(case na_Web_length=>k_is);(case i_Web_init=>k_is)
#print axioms PySem.Challenge.cw_onceround_k38_rings_and_rows_by_trial_holds
